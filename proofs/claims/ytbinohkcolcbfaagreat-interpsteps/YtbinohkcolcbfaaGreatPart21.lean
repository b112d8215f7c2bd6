import Derived.Test.YtbinohkcolcbfaaGreatPart1
import Derived.Test.YtbinohkcolcbfaaGreatPart20
namespace Go.Proofs.YtbinohkcolcbfaaGreat
open Go.RowKit Go.Proofs.Tryz
set_option linter.all false
set_option maxRecDepth 100000
set_option maxHeartbeats 16000000
theorem Yw:prog.underlying 110=some (.slice (prog.elem 110)):=kR
theorem YQ:prog.elem 110=114:=kR
theorem Vu(w:World):(sizeOf (prog.elem 110)).run prog w=.ok 3 w:=by rw[YQ];exact Tryz.sizeOf114 w
theorem GM{a b x y:Int}(h:(a,b)=(x,y)):(Ending.returned (.tuple #[.int .i64 a,.int .i64 b]))=.returned (.tuple #[.int .i64 x,.int .i64 y]):=by cases h;rfl
theorem MO(v0 v1 v2 v3:Value)(c:Cd)(hk:B5 c)(w:World)(hv:D8 w v0 v1 v2 v3 c)(hS:AP c.sign=0)(h1:c.regs.length<=16384)(h3:c.list.length<=32768)(h2:c.slots.length<=4096)(RA RB:Int)(hRES:(if(Al c&&Bl c)=true then Jo c ⟨[],[]⟩ 0 c.list else(160,-1))=(RA,RB)):
 Calls prog 21 #[.agg #[v0,v1,v2,v3]] w fun e w'=>e=.returned (.tuple #[.int .i64 RA,.int .i64 RB])/\Below w.heap.size w w':=by
 have hSG:∀v,Below w.heap.size w v->Calls prog 34 #[v0] v fun e w'=>e=.returned (.int .i64 0)/\Below v.heap.size v w':=fun v hb=>by rw[←hS];exact IY v0 c.sign hk.signL hk.names v (hv.below hb).sign.rd
 have l0:=hk.signL;obtain⟨p0,q0,rfl,-⟩:=id hv.sign;obtain⟨p1,q1,rfl,-⟩:=id hv.regs;obtain⟨p2,q2,rfl,-⟩:=id hv.slots;obtain⟨p3,q3,rfl,-⟩:=id hv.list;have HREGS:Hid (B6 2 Kw w (.slice p1 c.regs.length q1) c.regs):=hv.regs;have HSLOTS:Hid (B6 5 Jk w (.slice p2 c.slots.length q2) c.slots):=hv.slots;have HLIST:Hid (B6 7 Dt w (.slice p3 c.list.length q3) c.list):=hv.list;have HMT:Hid (∀ (t:Ty) v,Calls prog 35 #[.agg #[.int .i64 t.kind,.int .i64 t.par],.slice p0 c.sign.length q0] v fun e w'=>e=.returned (.bool (As t c.sign.length))/\Below v.heap.size v w'):=fun t v=>GN t p0 _ q0 hk.signL v;have HMS:Hid (∀ (s:Sl),s∈c.slots->∀v,Calls prog 36 #[.agg #[.int .i64 s.ty.kind,.int .i64 s.ty.par,.bool s.keep,.int .u32 s.bits,.int .i64 s.int_],.slice p0 c.sign.length q0] v fun e w'=>e=.returned (.bool (AQ s c.sign.length))/\Below v.heap.size v w'):=fun s hs v=>LO s (hk.sbits s hs).1 (hk.sbits s hs).2 p0 _ q0 hk.signL v;have HCV:Hid (D8 w (.slice p0 c.sign.length q0) (.slice p1 c.regs.length q1) (.slice p2 c.slots.length q2) (.slice p3 c.list.length q3) c):=hv;have HCO:Hid (B5 c):=hk;have HRES:Hid ((if(Al c&&Bl c)=true then Jo c ⟨[],[]⟩ 0 c.list else(160,-1))=(RA,RB)):=hRES;obtain⟨n0,hn0⟩:∃n,c.sign.length=n:=⟨_,rfl⟩
 obtain⟨n1,hn1⟩:∃n,c.regs.length=n:=⟨_,rfl⟩
 obtain⟨n2,hn2⟩:∃n,c.slots.length=n:=⟨_,rfl⟩
 obtain⟨n3,hn3⟩:∃n,c.list.length=n:=⟨_,rfl⟩
 have HN0:Hid (c.sign.length=n0):=hn0;have HN1:Hid (c.regs.length=n1):=hn1;have HN2:Hid (c.slots.length=n2):=hn2;have HN3:Hid (c.list.length=n3):=hn3;rw[hn0]at hSG l0 HMT HMS;rw[hn1]at h1 HREGS;rw[hn2]at h2 HSLOTS;rw[hn3]at h3 HLIST;rw[hn0,hn1,hn2,hn3]at HCV ⊢;have HSG:Hid _:=hSG;have g1:(n1:Int)<=16384:=oM;have g2:(n2:Int)<=4096:=oM;have g3:(n3:Int)<=32768:=oM;clear hSG hn0 hn1 hn2 hn3 hv hk hS hRES;go_enter func21,ntmps21;go_wp2_with(go_at_call 34;(with_reducible refine(HSG.out _ (A0 _ _)).mono ?_);rintro e w1 ⟨rfl,hb1⟩;have HX1:Hid (CX w (.slice p0 n0 q0) (.slice p1 n1 q1) (.slice p2 n2 q2) (.slice p3 n3 q3) w1):=(CX.start w _ _ _ _).next hb1;obtain⟨b1,b2,c0,c1,c2,c3⟩:=HX1.out;clear hb1);clear c0 c1 c2 c3 b1 b2
 go_loopw [5] (fun iv wr=>CX w (.slice p0 n0 q0) (.slice p1 n1 q1) (.slice p2 n2 q2) (.slice p3 n3 q3) wr/\∃j:Nat,j<=n1/\iv=.int .i64 (j:Int)/\Hid ((c.regs.take j).all (fun t=>As t n0)=true)) (fun iv _=>n1-(intOf iv).toNat)
 case atStart=>exact⟨HX1.out,0,Nat.zero_le _,rfl,by show _=_;simp⟩
 case round=>
  obtain⟨hcx,j,hj,rfl,hall⟩:=hrel;have HCX:Hid (CX w (.slice p0 n0 q0) (.slice p1 n1 q1) (.slice p2 n2 q2) (.slice p3 n3 q3) wr):=hcx;obtain⟨b1,b2,c0,c1,c2,c3⟩:=hcx;clear HX1;by_cases hlt:j<n1
  ·have hll:j<c.regs.length:=by rw[HN1.out];exact hlt
   obtain⟨b,o,rfl,hx⟩:=HREGS.out.at hll;have KN:=HMT.out c.regs[j];have NX:Hid (As c.regs[j] n0=true->(c.regs.take (j+1)).all (fun t=>As t n0)=true):=fun h=>M9 _ hll hall.out h;have NB:Hid (As c.regs[j] n0=false->(160,-1)=(RA,RB)):=fun h=>by
    have h5:Al c=false:=by unfold Al;rw[HN0.out];exact Po _ hll h
    have h6:=HRES.out;rw[h5,Bool.false_and,if_neg dE]at h6;exact h6
   obtain⟨⟨K,P⟩,hT⟩:∃T:Ty,c.regs[j]=T:=⟨_,rfl⟩
   rw[hT]at hx KN NX NB;have y0:wr.cell? ⟨b,o+j*2,none⟩=some (.int .i64 K):=kc b1 (hx.at 0 rfl);have y1:wr.cell? ⟨b,o+j*2+1,none⟩=some (.int .i64 P):=kc b1 (hx.at 1 rfl);obtain⟨X,hX⟩:∃X,As ⟨K,P⟩ n0=X:=⟨_,rfl⟩
   rw[hX]at NX NB;simp only[hX]at KN;have HK:Hid (∀v,Calls prog 35 #[.agg #[.int .i64 K,.int .i64 P],.slice p0 n0 q0] v fun e w'=>e=.returned (.bool X)/\Below v.heap.size v w'):=KN;have i1:(0:Int)<=(j:Int):=oM;have i2:(j:Int)<(n1:Int):=oM;clear KN hT hX hx hall;cases X
   ·go_wp2;refine rG (fun v=>v.cell? ⟨w.heap.size,1,none⟩=some (.slice (some ⟨b,o,none⟩) n1 q1)/\v.cell? ⟨w.heap.size,0,none⟩=some (.slice p0 n0 q0)/\v.cell? ⟨b,o+j*2,none⟩=some (.int .i64 K)/\v.cell? ⟨b,o+j*2+1,none⟩=some (.int .i64 P)) fun hHeld=>?_;refine Tf 0 1 2 3 4 5 ?_;refine AN 6 ?_;clear hHeld;refine Ap 7 fun K hK=>?_;go_simp;(go_at_call 35;(with_reducible refine(HK.out _).mono ?_);rintro e w2 ⟨rfl,hb2⟩;have HB2:Hid (Below wr.heap.size wr w2):=bel (A5 _) hb2;clear hb2;obtain⟨-,-,c0,c1,c2,c3⟩:=HCX.out.next HB2.out;have x0:=kc HB2.out y0;have x1:=kc HB2.out y1);exact Zec
   ·go_wp2;refine rG (fun v=>v.cell? ⟨w.heap.size,1,none⟩=some (.slice (some ⟨b,o,none⟩) n1 q1)/\v.cell? ⟨w.heap.size,0,none⟩=some (.slice p0 n0 q0)/\v.cell? ⟨b,o+j*2,none⟩=some (.int .i64 K)/\v.cell? ⟨b,o+j*2+1,none⟩=some (.int .i64 P)) fun hHeld=>?_;refine Tf 0 1 2 3 4 5 ?_;refine AN 6 ?_;clear hHeld;refine Ap 7 fun K hK=>?_;go_simp;(go_at_call 35;(with_reducible refine(HK.out _).mono ?_);rintro e w2 ⟨rfl,hb2⟩;have HB2:Hid (Below wr.heap.size wr w2):=bel (A5 _) hb2;clear hb2;obtain⟨-,-,c0,c1,c2,c3⟩:=HCX.out.next HB2.out;have x0:=kc HB2.out y0;have x1:=kc HB2.out y1);exact Zdt
  have hjn:j=n1:=oM;have HT:Hid (Al c=true):=by
   show _=_;have h5:=hall.out;rw[hjn,←HN1.out,List.take_length]at h5;unfold Al;rw[HN0.out];exact h5
  have e1:¬ (j:Int)<(n1:Int):=oM;clear hall hlt;go_wp2;clear e1 c0 c1 c2 c3 b1 b2
  go_loopw [6] (fun iv wr=>CX w (.slice p0 n0 q0) (.slice p1 n1 q1) (.slice p2 n2 q2) (.slice p3 n3 q3) wr/\∃j:Nat,j<=n2/\iv=.int .i64 (j:Int)/\Hid ((c.slots.take j).all (fun s=>AQ s n0)=true)) (fun iv _=>n2-(intOf iv).toNat)
  case atStart=>exact⟨HCX.out,0,Nat.zero_le _,rfl,by show _=_;simp⟩
  case round=>
   obtain⟨hcx,j,hj,rfl,hall⟩:=hrel;have HCX:Hid (CX w (.slice p0 n0 q0) (.slice p1 n1 q1) (.slice p2 n2 q2) (.slice p3 n3 q3) wr):=hcx;obtain⟨b1,b2,c0,c1,c2,c3⟩:=hcx;by_cases hlt:j<n2
   ·have hll:j<c.slots.length:=by rw[HN2.out];exact hlt
    obtain⟨b,o,rfl,hx⟩:=HSLOTS.out.at hll;have KN:=HMS.out c.slots[j] (List.getElem_mem hll);have NX:Hid (AQ c.slots[j] n0=true->(c.slots.take (j+1)).all (fun s=>AQ s n0)=true):=fun h=>M9 _ hll hall.out h;have NB:Hid (AQ c.slots[j] n0=false->(160,-1)=(RA,RB)):=fun h=>by
     have h5:Bl c=false:=by unfold Bl;rw[HN0.out];exact Po _ hll h
     have h6:=HRES.out;rw[h5,Bool.and_false,if_neg dE]at h6;exact h6
    obtain⟨⟨⟨K,P⟩,kp,sb,si⟩,hT⟩:∃T:Sl,c.slots[j]=T:=⟨_,rfl⟩
    rw[hT]at hx KN NX NB;have y0:wr.cell? ⟨b,o+j*5,none⟩=some (.int .i64 K):=kc b1 (hx.at 0 rfl);have y1:wr.cell? ⟨b,o+j*5+1,none⟩=some (.int .i64 P):=kc b1 (hx.at 1 rfl);have y2:wr.cell? ⟨b,o+j*5+2,none⟩=some (.bool kp):=kc b1 (hx.at 2 rfl);have y3:wr.cell? ⟨b,o+j*5+3,none⟩=some (.int .u32 sb):=kc b1 (hx.at 3 rfl);have y4:wr.cell? ⟨b,o+j*5+4,none⟩=some (.int .i64 si):=kc b1 (hx.at 4 rfl);obtain⟨X,hX⟩:∃X,AQ ⟨⟨K,P⟩,kp,sb,si⟩ n0=X:=⟨_,rfl⟩
    rw[hX]at NX NB;simp only[hX]at KN;have HK:Hid (∀v,Calls prog 36 #[.agg #[.int .i64 K,.int .i64 P,.bool kp,.int .u32 sb,.int .i64 si],.slice p0 n0 q0] v fun e w'=>e=.returned (.bool X)/\Below v.heap.size v w'):=KN;have i1:(0:Int)<=(j:Int):=oM;have i2:(j:Int)<(n2:Int):=oM;clear KN hT hX hx hall;cases X
    ·go_wp2;refine rG (fun v=>v.cell? ⟨w.heap.size,2,none⟩=some (.slice (some ⟨b,o,none⟩) n2 q2)/\v.cell? ⟨w.heap.size,0,none⟩=some (.slice p0 n0 q0)/\v.cell? ⟨b,o+j*5,none⟩=some (.int .i64 K)/\v.cell? ⟨b,o+j*5+1,none⟩=some (.int .i64 P)/\v.cell? ⟨b,o+j*5+2,none⟩=some (.bool kp)/\v.cell? ⟨b,o+j*5+3,none⟩=some (.int .u32 sb)/\v.cell? ⟨b,o+j*5+4,none⟩=some (.int .i64 si)) fun hHeld=>?_;refine Tf 0 1 2 3 4 5 ?_;refine AN 6 ?_;clear hHeld;refine Ap 7 fun K hK=>?_;go_simp;(go_at_call 36;(with_reducible refine(HK.out _).mono ?_);rintro e w2 ⟨rfl,hb2⟩;have HB2:Hid (Below wr.heap.size wr w2):=bel (A5 _) hb2;clear hb2;obtain⟨-,-,c0,c1,c2,c3⟩:=HCX.out.next HB2.out;have x0:=kc HB2.out y0;have x1:=kc HB2.out y1;have x2:=kc HB2.out y2;have x3:=kc HB2.out y3;have x4:=kc HB2.out y4);exact Zec
    ·go_wp2;refine rG (fun v=>v.cell? ⟨w.heap.size,2,none⟩=some (.slice (some ⟨b,o,none⟩) n2 q2)/\v.cell? ⟨w.heap.size,0,none⟩=some (.slice p0 n0 q0)/\v.cell? ⟨b,o+j*5,none⟩=some (.int .i64 K)/\v.cell? ⟨b,o+j*5+1,none⟩=some (.int .i64 P)/\v.cell? ⟨b,o+j*5+2,none⟩=some (.bool kp)/\v.cell? ⟨b,o+j*5+3,none⟩=some (.int .u32 sb)/\v.cell? ⟨b,o+j*5+4,none⟩=some (.int .i64 si)) fun hHeld=>?_;refine Tf 0 1 2 3 4 5 ?_;refine AN 6 ?_;clear hHeld;refine Ap 7 fun K hK=>?_;go_simp;(go_at_call 36;(with_reducible refine(HK.out _).mono ?_);rintro e w2 ⟨rfl,hb2⟩;have HB2:Hid (Below wr.heap.size wr w2):=bel (A5 _) hb2;clear hb2;obtain⟨-,-,c0,c1,c2,c3⟩:=HCX.out.next HB2.out;have x0:=kc HB2.out y0;have x1:=kc HB2.out y1;have x2:=kc HB2.out y2;have x3:=kc HB2.out y3;have x4:=kc HB2.out y4);exact Zdt
   have hjn2:j=n2:=oM;have HGO0:Hid (Jo c ⟨[],[]⟩ 0 c.list=(RA,RB)):=by
    show _=_;have h5:=hall.out;rw[hjn2,←HN2.out,List.take_length]at h5;have h6:Bl c=true:=by unfold Bl;rw[HN0.out];exact h5
    have h7:=HRES.out;rw[HT.out,h6,if_pos rF]at h7;exact h7
   have e1:¬ (j:Int)<(n2:Int):=oM;clear hall hlt;go_wp2;clear e1 c0 c1 c2 c3 b1 b2
   go_loopw [7,8] (fun sv iv wr=>CX w (.slice p0 n0 q0) (.slice p1 n1 q1) (.slice p2 n2 q2) (.slice p3 n3 q3) wr/\∃ (k:Nat) (p:Option Addr) (q:Nat),k<=n1/\iv=.int .i64 (k:Int)/\sv=.slice p k q/\wr.ownsRow (w.heap.size+1) 4 1 (.slice p k q) k (CN k [])) (fun _ iv _=>n1-(intOf iv).toNat)
   case atStart=>exact⟨HCX.out,0,none,0,Nat.zero_le _,rfl,rfl,by rw[show CN 0 []=[] from rfl];exact World.ownsRow_nil _ _ _ 1⟩
   case round=>
    obtain⟨hcx,k,p,q,hkn,rfl,rfl,how⟩:=hrel;have HCX:Hid (CX w (.slice p0 n0 q0) (.slice p1 n1 q1) (.slice p2 n2 q2) (.slice p3 n3 q3) wr):=hcx;obtain⟨b1,b2,c0,c1,c2,c3⟩:=hcx;by_cases hkl:k<n1
    ·obtain⟨g,c',w8,hap,hb8,ho8⟩:=SM how oM oM;have HAP:Hid ((Builtin.append_ #[100,100] 100 #[.slice p k q,.slice (some ⟨wr.heap.size,0,none⟩) 1 1]).run prog (wr.alloc (.cells #[.bool false] 4))=.ok (.slice (some ⟨g,0,none⟩) (k+1) c') w8):=hap;have HY8:Hid (CX w (.slice p0 n0 q0) (.slice p1 n1 q1) (.slice p2 n2 q2) (.slice p3 n3 q3) w8/\w8.ownsRow (w.heap.size+1) 4 1 (.slice (some ⟨g,0,none⟩) (k+1) c') (k+1) (CN (k+1) [])):=by
      refine⟨HCX.out.on hb8,?_⟩;rw[Nd,List.replicate_succ',←Nd];exact ho8
     have i2:(k:Int)<(n1:Int):=oM;have wi:IntKind.i64.wrap ((k:Int)+1)=((k+1:Nat):Int):=by rw[IntKind.wrap_i64];omega
     clear hap hb8 ho8 how;go_wp2_with(at_builtin;refine Av rF _ _ _ rF _ _ _ rF rF HAP.out ?_);go_roundw
     case rel=>exact⟨HY8.out.1,k+1,_,_,oM,gN,rfl,HY8.out.2⟩
     case measure=>simp[intOf];omega
    have hkn1:k=n1:=oM;subst hkn1;have HSK0:Hid (SK (w.heap.size+1) k wr (.slice p k q) (.slice none 0 0) ⟨[],[]⟩ []):=SK.start wr _ b2 how;have e1:¬ (k:Int)<(k:Int):=oM;clear how hkl;go_wp2;clear e1 c0 c1 c2 c3 b1 b2
    go_loopw [7,9,10] (fun sv ov iv wr=>CX w (.slice p0 n0 q0) (.slice p1 k q1) (.slice p2 n2 q2) (.slice p3 n3 q3) wr/\∃ (j:Nat) (s:Wk) (us:List Value),j<=n3/\iv=.int .i64 (j:Int)/\Hid (SK (w.heap.size+1) k wr sv ov s us)/\Hid (Dv k s)/\Hid (DH s)/\Hid (Jo c s j (c.list.drop j)=(RA,RB))) (fun _ _ iv _=>n3-(intOf iv).toNat)
    case atStart=>exact⟨HCX.out,0,⟨[],[]⟩,[],Nat.zero_le _,rfl,HSK0.out,Dv.start k,DH.start,by show _=_;rw[List.drop_zero];exact HGO0.out⟩
    case round=>
     obtain⟨hcx,j,s,us,hj,rfl,hsk,hok,hpo,hgo⟩:=hrel;obtain⟨po,qo,rfl⟩:=AV hsk.out.opn;obtain⟨ps,qs,rfl⟩:=AV hsk.out.set;have HCX:Hid (CX w (.slice p0 n0 q0) (.slice p1 k q1) (.slice p2 n2 q2) (.slice p3 n3 q3) wr):=hcx;obtain⟨b1,b2,f0,f1,f2,f3⟩:=hcx;have hnest:=hok.out.nest;clear HSK0;by_cases hlt:j<n3
     ·have hll:j<c.list.length:=by rw[HN3.out];exact hlt
      obtain⟨b,o,rfl,hx⟩:=HLIST.out.at hll;have hgo':=hgo.out;rw[List.drop_eq_getElem_cons hll]at hgo';have hgi:Jo c s j (c.list[j]::c.list.drop (j+1))=if AR c s c.list[j]then Jo c (An s c.list[j]) (j+1) (c.list.drop (j+1))else(160,(j:Int)):=rfl;rw[hgi]at hgo';have hib:=HCO.out.ibits c.list[j] (List.getElem_mem hll);have hos:AR c s c.list[j]=true->Dv k (An s c.list[j])/\DH (An s c.list[j]):=fun ht=>by
       have hq:Dv c.regs.length s:=by rw[HN1.out];exact hok.out
       have h5:=Dv.step hq ht;rw[HN1.out]at h5;exact⟨h5,hpo.out.step ht⟩
      have htk:AR c s c.list[j]=true->Bt c c.list[j] (A6 c.list[j].op)=true/\AA c s c.list[j] (A6 c.list[j].op)=true:=fun ht=>by
       obtain⟨-,h5,h6,-⟩:=AZ ht;exact⟨h5,h6⟩
      obtain⟨⟨op,D,A,Q,E,nn,bt⟩,hxx⟩:∃x:At,c.list[j]=x:=⟨_,rfl⟩
      rw[hxx]at hx hgo' hos htk hib;have KS:=N7 _ _ _ _ c HCO.out HT.out (⟨op,D,A,Q,E,nn,bt⟩:At) hib.1 hib.2 (w.heap.size+1) s (.slice ps k qs) (.slice po s.opens.length qo) us (by rw[HN1.out];exact h1) (by rw[HN1.out];exact hok.out) hpo.out (wr.alloc (.cells #[.int .i64 op,.int .i64 D,.int .i64 A,.int .i64 Q,.int .i64 E,.int .i64 nn,.int .u32 bt] 45)) ((HCV.out.below b1).below (A0 _ _)) (by rw[HN1.out];exact hsk.out.below (A0 _ _));have x0:=kc b1 (hx.at 0 rfl);have x1:=kc b1 (hx.at 1 rfl);have x2:=kc b1 (hx.at 2 rfl);have x3:=kc b1 (hx.at 3 rfl);have x4:=kc b1 (hx.at 4 rfl);have x5:=kc b1 (hx.at 5 rfl);have x6:=kc b1 (hx.at 6 rfl);rw[Nat.add_zero]at x0;obtain⟨-,-,f0',f1',f2',f3'⟩:=HCX.out.next (A0 wr (.cells #[.int .i64 op,.int .i64 D,.int .i64 A,.int .i64 Q,.int .i64 E,.int .i64 nn,.int .u32 bt] 45));have HIX:Hid (∀v,Below (wr.alloc (.cells #[.int .i64 op,.int .i64 D,.int .i64 A,.int .i64 Q,.int .i64 E,.int .i64 nn,.int .u32 bt] 45)).heap.size (wr.alloc (.cells #[.int .i64 op,.int .i64 D,.int .i64 A,.int .i64 Q,.int .i64 E,.int .i64 nn,.int .u32 bt] 45)) v->v.cell? ⟨wr.heap.size,0,none⟩=some (.int .i64 op)/\v.cell? ⟨wr.heap.size,1,none⟩=some (.int .i64 D)/\v.cell? ⟨wr.heap.size,2,none⟩=some (.int .i64 A)/\v.cell? ⟨wr.heap.size,3,none⟩=some (.int .i64 Q)/\v.cell? ⟨wr.heap.size,4,none⟩=some (.int .i64 E)/\v.cell? ⟨wr.heap.size,5,none⟩=some (.int .i64 nn)/\v.cell? ⟨wr.heap.size,6,none⟩=some (.int .u32 bt)):=fun v hb=>⟨kc hb sG,kc hb sG,kc hb sG,kc hb sG,kc hb sG,kc hb sG,kc hb sG⟩
      obtain⟨T,hT⟩:∃T,AR c s (⟨op,D,A,Q,E,nn,bt⟩:At)=T:=⟨_,rfl⟩
      rw[hT]at hgo' hos htk KS;have HST:Hid (Calls prog 37 #[.agg #[.slice p0 n0 q0,.slice p1 k q1,.slice p2 n2 q2,.slice (some ⟨b,o,none⟩) n3 q3],.agg #[.int .i64 op,.int .i64 D,.int .i64 A,.int .i64 Q,.int .i64 E,.int .i64 nn,.int .u32 bt],.slice ps k qs,.slice po s.opens.length qo] (wr.alloc (.cells #[.int .i64 op,.int .i64 D,.int .i64 A,.int .i64 Q,.int .i64 E,.int .i64 nn,.int .u32 bt] 45)) fun e w'=>e=.returned (.bool T)/\Below (wr.alloc (.cells #[.int .i64 op,.int .i64 D,.int .i64 A,.int .i64 Q,.int .i64 E,.int .i64 nn,.int .u32 bt] 45)).heap.size (wr.alloc (.cells #[.int .i64 op,.int .i64 D,.int .i64 A,.int .i64 Q,.int .i64 E,.int .i64 nn,.int .u32 bt] 45)) w'):=KS;have HGO:Hid ((if T=true then Jo c (An s (⟨op,D,A,Q,E,nn,bt⟩:At)) (j+1) (c.list.drop (j+1))else(160,(j:Int)))=(RA,RB)):=hgo';have HOS:Hid (T=true->Dv k (An s (⟨op,D,A,Q,E,nn,bt⟩:At))/\DH (An s (⟨op,D,A,Q,E,nn,bt⟩:At))):=hos;have HTK:Hid (T=true->Bt c (⟨op,D,A,Q,E,nn,bt⟩:At) (A6 op)=true/\AA c s (⟨op,D,A,Q,E,nn,bt⟩:At) (A6 op)=true):=htk;have k1:(0:Int)<=(j:Int):=oM;have k2:(j:Int)<(n3:Int):=oM;have wj:IntKind.i64.wrap ((j:Int)+1)=((j+1:Nat):Int):=by rw[IntKind.wrap_i64];omega
      clear KS hgo hgo' hgi hos htk hT hx hxx hib hll;cases T
      ·have HQ:Hid ((160,(j:Int))=(RA,RB)):=by show _=_;have:=HGO.out;rw[if_neg dE]at this;exact this
       go_wp2_with(go_at_call 37;(with_reducible refine HST.out.mono ?_);rintro e w5 ⟨rfl,hb5⟩;have HB5:Hid (Below (wr.alloc (.cells #[.int .i64 op,.int .i64 D,.int .i64 A,.int .i64 Q,.int .i64 E,.int .i64 nn,.int .u32 bt] 45)).heap.size (wr.alloc (.cells #[.int .i64 op,.int .i64 D,.int .i64 A,.int .i64 Q,.int .i64 E,.int .i64 nn,.int .u32 bt] 45)) w5):=hb5;clear hb5 f0 f1 f2 f3;obtain⟨-,-,f0,f1,f2,f3⟩:=(HCX.out.next (A0 _ _)).next HB5.out;obtain⟨i0,i1,i2,i3,i4,i5,i6⟩:=HIX.out w5 HB5.out)
       go_ret2
       exact⟨GM HQ.out,bel (bel HCX.out.bel (A0 _ _)) HB5.out⟩
      ·have HO1:Hid (Dv k (An s (⟨op,D,A,Q,E,nn,bt⟩:At))/\DH (An s (⟨op,D,A,Q,E,nn,bt⟩:At))):=HOS.out rfl;have HG1:Hid (Jo c (An s (⟨op,D,A,Q,E,nn,bt⟩:At)) (j+1) (c.list.drop (j+1))=(RA,RB)):=by show _=_;have:=HGO.out;rw[if_pos rfl]at this;exact this
       have HTK1:Hid (Bt c (⟨op,D,A,Q,E,nn,bt⟩:At) (A6 op)=true/\AA c s (⟨op,D,A,Q,E,nn,bt⟩:At) (A6 op)=true):=HTK.out rfl;have HOB:Hid (∀g,(Value.slice po s.opens.length qo).ownBlock=some g->g<wr.heap.size):=fun g e=>(hsk.out.opn.lt g e).2;clear HGO HOS HTK;by_cases hop:op=34\/op=36
       ·have hn64:s.opens.length<64:=Gg (i:=(⟨op,D,A,Q,E,nn,bt⟩:At)) HTK1.out.2 hop;have HOP:Hid (op=34\/op=36):=hop;have HCP:Hid (∀v,Below wr.heap.size wr v->Calls prog 38 #[.slice ps k qs] v fun e w'=>∃u,e=.returned u/\w'.ownsRow v.heap.size 4 1 u k (CN k s.set)/\Below v.heap.size v w'):=fun v hb=>Hx _ h1 v (Az hsk.out.set hb);have hq:((op==34)=true)\/((op==34)=false/\(op==36)=true):=by
         rcases hop with e|e
         ·exact .inl (by simpa using e)
         ·exact .inr ⟨by rw[e];decide,by simpa using e⟩
        clear hop;rcases hq with r1|⟨r1,r2⟩
        all_goals
         go_wp2_with(go_at_call 37;(with_reducible refine HST.out.mono ?_);rintro e w5 ⟨rfl,hb5⟩;have HB5:Hid (Below (wr.alloc (.cells #[.int .i64 op,.int .i64 D,.int .i64 A,.int .i64 Q,.int .i64 E,.int .i64 nn,.int .u32 bt] 45)).heap.size (wr.alloc (.cells #[.int .i64 op,.int .i64 D,.int .i64 A,.int .i64 Q,.int .i64 E,.int .i64 nn,.int .u32 bt] 45)) w5):=hb5;have HBR:Hid (Below wr.heap.size wr w5):=bel (A0 _ _) hb5;clear hb5 f0 f1 f2 f3;obtain⟨-,-,f0,f1,f2,f3⟩:=(HCX.out.next (A0 _ _)).next HB5.out;obtain⟨i0,i1,i2,i3,i4,i5,i6⟩:=HIX.out w5 HB5.out);refine rG (fun v=>v.cell? ⟨wr.heap.size,0,none⟩=some (.int .i64 op)/\v.cell? ⟨wr.heap.size,5,none⟩=some (.int .i64 nn)) fun hHeld=>?_;refine Tf 0 1 2 3 4 5 ?_;clear hHeld;refine Ap 6 fun K hK=>?_;go_simp;(go_at_call 38;(with_reducible refine(HCP.out _ (bel HBR.out (A5 _))).mono ?_);rintro e w6 ⟨u,rfl,hu,hb6⟩;obtain⟨pu,qu,rfl⟩:=AV hu;have hb66:Below w5.heap.size w5 w6:=bel (A5 _) hb6;obtain⟨g',c',w7,hrun,hb7,hsk7,hoth⟩:=SK.push (i:=(⟨op,D,A,Q,E,nn,bt⟩:At)) (hsk.out.below HBR.out) hb66 hu HOP.out hn64 110;dsimp only at hrun;have HRUN:Hid _:=hrun;have HX7:Hid (CX w (.slice p0 n0 q0) (.slice p1 k q1) (.slice p2 n2 q2) (.slice (some ⟨b,o,none⟩) n3 q3) w7):=((HCX.out.next (A0 _ _)).next HB5.out).on hb7;have HS7:Hid (SK (w.heap.size+1) k w7 (.slice ps k qs) (.slice (some ⟨g',0,none⟩) (s.opens.length+1) c') (An s (⟨op,D,A,Q,E,nn,bt⟩:At)) (us++[.slice pu k qu])):=hsk7;have j0:=kc hb66 i0;have j5:=kc hb66 i5;have hwl:wr.heap.size<w6.heap.size:=A3 j0;have hne:(Value.slice po s.opens.length qo).ownBlock≠some wr.heap.size:=(fun e=>Nat.lt_irrefl _ (HOB.out _ e));have m0:w7.cell? ⟨wr.heap.size,0,none⟩=some (.int .i64 op):=(World.cell?_of_block (hoth _ hwl hne)).trans j0;have m5:w7.cell? ⟨wr.heap.size,5,none⟩=some (.int .i64 nn):=(World.cell?_of_block (hoth _ hwl hne)).trans j5;have a0:∀x,(w6.alloc x).cell? ⟨wr.heap.size,0,none⟩=some (.int .i64 op):=(fun x=>kc (A0 _ _) j0);have a5:∀x,(w6.alloc x).cell? ⟨wr.heap.size,5,none⟩=some (.int .i64 nn):=(fun x=>kc (A0 _ _) j5);clear hu hb6 hb66 hrun hb7 hsk7 hoth hne i0 i5);try(go_wp2_with fail)
         refine Ao hK fun hHeld=>?_;clear hK K;refine AN 7 ?_;clear hHeld;refine Ap 8 fun K hK=>?_;go_simp;refine Ao hK fun hHeld=>?_;clear hK K;clear hHeld;refine Ap 9 fun K hK=>?_;refine EY _ _ _ rF _ _ _ rF rF HRUN.out ?_ _ rF;refine Ao hK fun hHeld=>?_;clear hK K;refine AN 10 ?_;refine wpAnyH_done kR ?_ _;go_wp2;go_roundw
         case rel=>exact⟨HX7.out,j+1,An s (⟨op,D,A,Q,E,nn,bt⟩:At),us++[Value.slice pu k qu],oM,gN,HS7,HO1.out.1,HO1.out.2,HG1.out⟩
         case measure=>simp[intOf];omega
       have q34:(op==34)=false:=by have:op≠34:=fun e=>hop (.inl e);simpa using this
       have q36:(op==36)=false:=by have:op≠36:=fun e=>hop (.inr e);simpa using this
       have HNO:Hid (op≠34/\op≠36):=⟨fun e=>hop (.inl e),fun e=>hop (.inr e)⟩
       clear hop;by_cases h35:op=35
       ·have hmay:=HTK1.out.2;unfold AA at hmay;rw[if_neg (fun e=>e.elim HNO.out.1 HNO.out.2),if_pos h35]at hmay;simp only[Bool.and_eq_true,Bool.not_eq_true']at hmay;have hn0:0<s.opens.length:=by
         rcases Nat.eq_zero_or_pos s.opens.length with e|e
         ·have:=List.length_eq_zero_iff.1 e;rw[this]at hmay;exact absurd hmay.1 dE
         ·exact e
        have HLP:Hid (Aw s=false):=hmay.2;obtain⟨g,cap,eo,-⟩:=hsk.out.opn.form hn0;simp only[Value.slice.injEq]at eo;obtain⟨rfl,-,-⟩:=eo;obtain⟨X,u,hX,hu,-,-,z2⟩:=hsk.out.last hn0;obtain⟨pu,qu,rfl⟩:=AV hu;have HXO:Hid ((Jv s)[s.opens.length-1]? =some ⟨if Aw s then 36 else 34,Cx s,X⟩):=hX;have HCP:Hid (∀v,Below wr.heap.size wr v->Calls prog 38 #[.slice pu k qu] v fun e w'=>∃u,e=.returned u/\w'.ownsRow v.heap.size 4 1 u k (CN k X)/\Below v.heap.size v w'):=fun v hb=>Hx _ h1 v (Az hu hb);have s1:=fun w=>EM Yw Vu (some ⟨g,0,none⟩) s.opens.length qo (s.opens.length-1) (by have:=LJ hsk.out.opn;omega) w;have HN0':Hid (0<s.opens.length):=hn0;obtain⟨N,hN⟩:∃N,s.opens.length=N:=⟨_,rfl⟩
        obtain⟨m,hm⟩:∃m,N-1=m:=⟨_,rfl⟩
        have HNN:Hid (s.opens.length=N):=hN;have HMM:Hid (N-1=m):=hm;rw[hN]at z2 s1 hn0 hnest;rw[hm]at z2 s1;rw[hN]at HST;rw[hN];have hw:IntKind.i64.wrap ((N:Int)-1)=(m:Int):=by rw[IntKind.wrap_i64];omega
        have r1:(0:Int)<=(m:Int):=oM;have r2:(m:Int)<(N:Int):=oM;have q35:(op==35)=true:=by simpa using h35
        have HOP:Hid (op=35\/op=37):=.inl h35;clear hmay hX hu h35 hN hm;go_wp2_with(first
         |(go_at_call 37;(with_reducible refine HST.out.mono ?_);rintro e w5 ⟨rfl,hb5⟩;have HB5:Hid (Below (wr.alloc (.cells #[.int .i64 op,.int .i64 D,.int .i64 A,.int .i64 Q,.int .i64 E,.int .i64 nn,.int .u32 bt] 45)).heap.size (wr.alloc (.cells #[.int .i64 op,.int .i64 D,.int .i64 A,.int .i64 Q,.int .i64 E,.int .i64 nn,.int .u32 bt] 45)) w5):=hb5;have HBR:Hid (Below wr.heap.size wr w5):=bel (A0 _ _) hb5;clear hb5 f0 f1 f2 f3;obtain⟨-,-,f0,f1,f2,f3⟩:=(HCX.out.next (A0 _ _)).next HB5.out;have z5:=kc HBR.out z2;obtain⟨i0,i1,i2,i3,i4,i5,i6⟩:=HIX.out w5 HB5.out)
         |(go_at_call 38;(with_reducible refine(HCP.out _ HBR.out).mono ?_);rintro e w6 ⟨u,rfl,hu,hb6⟩;have HU6:Hid (w6.ownsRow w5.heap.size 4 1 u k (CN k X)):=hu;have HB6:Hid (Below w5.heap.size w5 w6):=hb6;clear hu hb6))
        go_roundw
        case rel=>
         refine⟨((HCX.out.next (A0 _ _)).next HB5.out).next HB6.out,j+1,An s (⟨op,D,A,Q,E,nn,bt⟩:At),us.take (s.opens.length-1),oM,gN,?_,HO1.out.1,HO1.out.2,HG1.out⟩;have e1:An s (⟨op,D,A,Q,E,nn,bt⟩:At)=AM s:=LY HOP.out;have h9:=SK.back (hsk.out.below HBR.out) hok.out HN0'.out HLP.out HB6.out HXO.out HU6.out;rw[e1,←HMM.out,←HNN.out];exact h9
        case measure=>simp[intOf];omega
       have q35:(op==35)=false:=by simpa using h35
       by_cases h37:op=37
       ·have hmay:=HTK1.out.2;unfold AA at hmay;rw[if_neg (fun e=>e.elim HNO.out.1 HNO.out.2),if_neg h35,if_pos h37]at hmay;have hn0:0<s.opens.length:=by
         rcases Nat.eq_zero_or_pos s.opens.length with e|e
         ·have:=List.length_eq_zero_iff.1 e;unfold Aw at hmay;rw[this]at hmay;exact absurd hmay dE
         ·exact e
        have HLP:Hid (Aw s=true):=hmay;have s1:=fun w=>EM Yw Vu po s.opens.length qo (s.opens.length-1) (by have:=LJ hsk.out.opn;omega) w;have HN0':Hid (0<s.opens.length):=hn0;obtain⟨N,hN⟩:∃N,s.opens.length=N:=⟨_,rfl⟩
        obtain⟨m,hm⟩:∃m,N-1=m:=⟨_,rfl⟩
        have HNN:Hid (s.opens.length=N):=hN;have HMM:Hid (N-1=m):=hm;rw[hN]at s1 hn0 hnest;rw[hm]at s1;rw[hN]at HST;rw[hN];have hw:IntKind.i64.wrap ((N:Int)-1)=(m:Int):=by rw[IntKind.wrap_i64];omega
        have r1:(0:Int)<=(m:Int):=oM;have r2:(m:Int)<(N:Int):=oM;have q37:(op==37)=true:=by simpa using h37
        have HOP:Hid (op=35\/op=37):=.inr h37;clear hmay h35 h37 hN hm;go_wp2_with(go_at_call 37;(with_reducible refine HST.out.mono ?_);rintro e w5 ⟨rfl,hb5⟩;have HB5:Hid (Below (wr.alloc (.cells #[.int .i64 op,.int .i64 D,.int .i64 A,.int .i64 Q,.int .i64 E,.int .i64 nn,.int .u32 bt] 45)).heap.size (wr.alloc (.cells #[.int .i64 op,.int .i64 D,.int .i64 A,.int .i64 Q,.int .i64 E,.int .i64 nn,.int .u32 bt] 45)) w5):=hb5;have HBR:Hid (Below wr.heap.size wr w5):=bel (A0 _ _) hb5;clear hb5 f0 f1 f2 f3;obtain⟨-,-,f0,f1,f2,f3⟩:=(HCX.out.next (A0 _ _)).next HB5.out;obtain⟨i0,i1,i2,i3,i4,i5,i6⟩:=HIX.out w5 HB5.out);go_roundw
        case rel=>
         refine⟨(HCX.out.next (A0 _ _)).next HB5.out,j+1,An s (⟨op,D,A,Q,E,nn,bt⟩:At),us.take (s.opens.length-1),oM,gN,?_,HO1.out.1,HO1.out.2,HG1.out⟩;have e1:An s (⟨op,D,A,Q,E,nn,bt⟩:At)=AM s:=LY HOP.out;have h9:=SK.pop (hsk.out.below HBR.out) hok.out HN0'.out HLP.out;rw[e1,←HMM.out,←HNN.out];exact h9
        case measure=>simp[intOf];omega
       have q37:(op==37)=false:=by simpa using h37
       have HNP:Hid (op≠34/\op≠35/\op≠36/\op≠37):=⟨HNO.out.1,h35,HNO.out.2,h37⟩
       have KE:=RX (⟨op,D,A,Q,E,nn,bt⟩:At);unfold Vq at KE;simp only at KE;have hdr:(A6 op).d≠0->0<=D/\D<(k:Int):=fun hd=>by
        have:=Ae (E6 HTK1.out.1) hd;rw[HN1.out]at this;exact this
       clear h35 h37;by_cases hsd:(A6 op).d=0
       ·have e9:((A6 op).d != 0)=false:=by simp[hsd]
        rw[e9]at KE;have HKE:Hid (∀v,Calls prog 39 #[.agg #[.int .i64 op,.int .i64 D,.int .i64 A,.int .i64 Q,.int .i64 E,.int .i64 nn,.int .u32 bt]] v fun e w'=>e=.returned (.bool false)/\Below v.heap.size v w'):=KE;have HSD:Hid ((A6 op).d=0):=hsd;clear KE e9 hdr hsd;go_wp2_with(first
         |(go_at_call 37;(with_reducible refine HST.out.mono ?_);rintro e w5 ⟨rfl,hb5⟩;have HB5:Hid (Below (wr.alloc (.cells #[.int .i64 op,.int .i64 D,.int .i64 A,.int .i64 Q,.int .i64 E,.int .i64 nn,.int .u32 bt] 45)).heap.size (wr.alloc (.cells #[.int .i64 op,.int .i64 D,.int .i64 A,.int .i64 Q,.int .i64 E,.int .i64 nn,.int .u32 bt] 45)) w5):=hb5;have HBR:Hid (Below wr.heap.size wr w5):=bel (A0 _ _) hb5;clear hb5 f0 f1 f2 f3;obtain⟨-,-,f0,f1,f2,f3⟩:=(HCX.out.next (A0 _ _)).next HB5.out;obtain⟨i0,i1,i2,i3,i4,i5,i6⟩:=HIX.out w5 HB5.out)
         |(go_at_call 39;(with_reducible refine(HKE.out _).mono ?_);rintro e w6 ⟨rfl,hb6⟩;have HB6:Hid (Below w5.heap.size w5 w6):=hb6;clear hb6))
        go_roundw
        case rel=>exact⟨((HCX.out.next (A0 _ _)).next HB5.out).next HB6.out,j+1,An s (⟨op,D,A,Q,E,nn,bt⟩:At),us,oM,gN,SK.keep ((hsk.out.below HBR.out).below HB6.out) hok.out HNP.out.1 HNP.out.2.1 HNP.out.2.2.1 HNP.out.2.2.2 HSD.out,HO1.out.1,HO1.out.2,HG1.out⟩
        case measure=>simp[intOf];omega
       ·have e9:((A6 op).d != 0)=true:=by simp[hsd]
        rw[e9]at KE;have HKE:Hid (∀v,Calls prog 39 #[.agg #[.int .i64 op,.int .i64 D,.int .i64 A,.int .i64 Q,.int .i64 E,.int .i64 nn,.int .u32 bt]] v fun e w'=>e=.returned (.bool true)/\Below v.heap.size v w'):=KE;have HSD:Hid ((A6 op).d≠0):=hsd;obtain⟨d,rfl⟩:∃d:Nat,D=(d:Int):=⟨D.toNat,by have:=hdr hsd;omega⟩
        have hd2:=(hdr hsd).2;obtain⟨gs,cap,eo,hgs,-⟩:=hsk.out.set.form oM;simp only[Value.slice.injEq]at eo;obtain⟨rfl,-,-⟩:=eo;have d0:(0:Int)<=(d:Int):=oM;have HG9:Hid (w.heap.size+1<=gs):=(hsk.out.set.lt gs rfl).1;have HCE:Hid (∀v,Below wr.heap.size wr v->v.cell? ⟨gs,d,none⟩=some (.bool (decide (d∈s.set)))/\v.frozen? ⟨gs,d,none⟩=false):=fun v hb=>by
         have h9:=Az hsk.out.set hb;exact⟨by rw[h9.cellAt d oM,GQ oM],h9.frozenAt d⟩
        clear KE e9 hdr hsd;go_wp2_with(first
         |(go_at_call 37;(with_reducible refine HST.out.mono ?_);rintro e w5 ⟨rfl,hb5⟩;have HB5:Hid (Below (wr.alloc (.cells #[.int .i64 op,.int .i64 (d:Int),.int .i64 A,.int .i64 Q,.int .i64 E,.int .i64 nn,.int .u32 bt] 45)).heap.size (wr.alloc (.cells #[.int .i64 op,.int .i64 (d:Int),.int .i64 A,.int .i64 Q,.int .i64 E,.int .i64 nn,.int .u32 bt] 45)) w5):=hb5;have HBR:Hid (Below wr.heap.size wr w5):=bel (A0 _ _) hb5;clear hb5 f0 f1 f2 f3;obtain⟨-,-,f0,f1,f2,f3⟩:=(HCX.out.next (A0 _ _)).next HB5.out;obtain⟨i0,i1,i2,i3,i4,i5,i6⟩:=HIX.out w5 HB5.out)
         |(go_at_call 39;(with_reducible refine(HKE.out _).mono ?_);rintro e w6 ⟨rfl,hb6⟩;have HB6:Hid (Below w5.heap.size w5 w6):=hb6;obtain⟨y8,y9⟩:=HCE.out w6 (bel HBR.out hb6);have i1:=kc hb6 i1;clear hb6))
        go_roundw
        case rel=>exact⟨(((HCX.out.next (A0 _ _)).next HB5.out).next HB6.out).on ((Below.refl _ _).setCell HG9.out _),j+1,An s ⟨op,(d:Int),A,Q,E,nn,bt⟩,us,oM,gN,SK.ins (i:=⟨op,(d:Int),A,Q,E,nn,bt⟩) ((hsk.out.below HBR.out).below HB6.out) hok.out HNP.out.1 HNP.out.2.1 HNP.out.2.2.1 HNP.out.2.2.2 HSD.out (by have:=hd2;show d<k;omega),HO1.out.1,HO1.out.2,HG1.out⟩
        case measure=>simp[intOf];omega
     ·have hjn3:j=n3:=oM;have hgo':=hgo.out;rw[List.drop_of_length_le (by rw[HN3.out,hjn3];exact Nat.le_refl _)]at hgo';have hgi:Jo c s j []=if s.opens.isEmpty then(0,0)else(160,(j:Int)):=rfl;rw[hgi]at hgo';obtain⟨N,hN⟩:∃N,s.opens.length=N:=⟨_,rfl⟩
      have hE:s.opens.isEmpty=decide (N=0):=by
       rw[←hN];cases s.opens with
       |nil=>rfl
       |cons a l=>simp
      rw[hE]at hgo';have HGO:Hid ((if decide (N=0)=true then((0:Int),(0:Int))else(160,(j:Int)))=(RA,RB)):=hgo';rw[hN]at hnest;rw[hN];have e1:¬ (j:Int)<(n3:Int):=oM;clear hgo hgo' hgi hE hN hlt;by_cases hz:N=0
      ·have HQ:Hid ((0,0)=(RA,RB)):=by show _=_;have:=HGO.out;rw[if_pos (by simpa using hz)]at this;exact this
       subst hz;go_wp2
       go_ret2
       exact⟨GM HQ.out,HCX.out.bel⟩
      ·have HQ:Hid ((160,(j:Int))=(RA,RB)):=by show _=_;have:=HGO.out;rw[if_neg (by simpa using hz)]at this;exact this
       have hz':(0:Int)<(N:Int):=oM;have HJ:Hid ((j:Int)=(n3:Int)):=by show _=_;omega
       clear hz;go_wp2;refine rG (fun v=>v.cell? ⟨w.heap.size,3,none⟩=some (.slice p3 n3 q3)) fun hHeld=>?_;refine Tc 0 1 2 ?_;refine Tb 3 4 ?_;refine wpAnyH_done kR ?_ _;go_wp2
       go_ret2
       refine⟨GM ?_,CU HCX.out.bel⟩;rw[←HJ.out];exact HQ.out
def To(C:Nat)(sv nv wv mv gv pv uv:Value):Nat->Value
 |0=>.pointer (some ⟨C,0,none⟩)
 |1=>sv
 |2=>nv
 |3=>wv
 |4=>mv
 |5=>gv
 |6=>pv
 |_=>uv
structure F2(w V:World)(FR NB WB n C:Nat)(sv gv pv:Value):Prop where
 row:V.rowIs FR 94 8 (To C sv (.slice (some ⟨NB,0,none⟩) n n) (.slice (some ⟨WB,0,none⟩) n n) (.map none) gv pv (.slice none 0 0))
 nb:V.rowIs NB 43 n (fun _=>.int .u32 0)
 wb:V.rowIs WB 3 n (fun _=>.int .i64 0)
 bel:Below w.heap.size w V
 fr:w.heap.size=FR
 size:V.heap.size=FR+3
 n1:FR<NB
 n2:FR<WB
 n3:NB<FR+3
 n4:WB<FR+3
 n5:NB≠WB
section
variable {w W1 : World} {FR n C : Nat} {sv gv pv : Value}
theorem F2_a(hb:Below w.heap.size w W1)(hr:W1.rowIs FR 94 8 (To C sv (.slice none 0 0) (.slice none 0 0) (.map none) gv pv (.slice none 0 0)))(hs:W1.heap.size=FR+1)(hf:w.heap.size=FR):
 F2 w ((((W1.alloc (.cells (madeCells #[.int .u32 0] n) 43)).alloc (.cells (madeCells #[.int .i64 0] n) 3)).setCell ⟨FR,2,none⟩ (.slice (some ⟨W1.heap.size,0,none⟩) n n)).setCell ⟨FR,3,none⟩ (.slice (some ⟨W1.heap.size+1,0,none⟩) n n)).drew FR W1.heap.size (W1.heap.size+1) n C sv gv pv:=by
 have h1:=World.rowIs_made W1 (.int .u32 0) n 43;have h2:=World.rowIs_made (W1.alloc (.cells (madeCells #[.int .u32 0] n) 43)) (.int .i64 0) n 3;rw[show(W1.alloc (.cells (madeCells #[.int .u32 0] n) 43)).heap.size=W1.heap.size+1 by simp]at h2;refine⟨World.rowIs.drew (((((hr.alloc _).alloc _).set 2 _).set 3 _).congr fun j hj=>?_),World.rowIs.drew (((h1.alloc _).setOther ZD _).setOther ZD _),World.rowIs.drew ((h2.setOther Zgh _).setOther Zgh _),?_,hf,by simp[World.setCell];omega,oM,oM,oM,oM,oM⟩
 ·exact ZB
 ·exact Zfa
theorem F2_b(hb:Below w.heap.size w W1)(hr:W1.rowIs FR 94 8 (To C sv (.slice none 0 0) (.slice none 0 0) (.map none) gv pv (.slice none 0 0)))(hs:W1.heap.size=FR+1)(hf:w.heap.size=FR):
 F2 w ((((W1.alloc (.cells (madeCells #[.int .u32 0] n) 43)).setCell ⟨FR,2,none⟩ (.slice (some ⟨W1.heap.size,0,none⟩) n n)).alloc (.cells (madeCells #[.int .i64 0] n) 3)).setCell ⟨FR,3,none⟩ (.slice (some ⟨W1.heap.size+1,0,none⟩) n n)).drew FR W1.heap.size (W1.heap.size+1) n C sv gv pv:=by
 have h1:=World.rowIs_made W1 (.int .u32 0) n 43;have h2:=World.rowIs_made ((W1.alloc (.cells (madeCells #[.int .u32 0] n) 43)).setCell ⟨FR,2,none⟩ (.slice (some ⟨W1.heap.size,0,none⟩) n n)) (.int .i64 0) n 3;rw[show((W1.alloc (.cells (madeCells #[.int .u32 0] n) 43)).setCell ⟨FR,2,none⟩ (.slice (some ⟨W1.heap.size,0,none⟩) n n)).heap.size=W1.heap.size+1 by simp[World.setCell]]at h2;refine⟨World.rowIs.drew (((((hr.alloc _).set 2 _).alloc _).set 3 _).congr fun j hj=>?_),World.rowIs.drew (((h1.setOther ZD _).alloc _).setOther ZD _),World.rowIs.drew (h2.setOther Zgh _),?_,hf,by simp[World.setCell];omega,oM,oM,oM,oM,oM⟩
 ·exact ZB
 ·exact Below.drew ((((hb.alloc oM _).setCell Zgx _).alloc (by simp[World.setCell];omega) _).setCell Zgx _)
theorem F2_c(hb:Below w.heap.size w W1)(hr:W1.rowIs FR 94 8 (To C sv (.slice none 0 0) (.slice none 0 0) (.map none) gv pv (.slice none 0 0)))(hs:W1.heap.size=FR+1)(hf:w.heap.size=FR):
 F2 w ((((W1.alloc (.cells (madeCells #[.int .i64 0] n) 3)).alloc (.cells (madeCells #[.int .u32 0] n) 43)).setCell ⟨FR,2,none⟩ (.slice (some ⟨W1.heap.size+1,0,none⟩) n n)).setCell ⟨FR,3,none⟩ (.slice (some ⟨W1.heap.size,0,none⟩) n n)).drew FR (W1.heap.size+1) W1.heap.size n C sv gv pv:=by
 have h1:=World.rowIs_made W1 (.int .i64 0) n 3;have h2:=World.rowIs_made (W1.alloc (.cells (madeCells #[.int .i64 0] n) 3)) (.int .u32 0) n 43;rw[show(W1.alloc (.cells (madeCells #[.int .i64 0] n) 3)).heap.size=W1.heap.size+1 by simp]at h2;refine⟨World.rowIs.drew (((((hr.alloc _).alloc _).set 2 _).set 3 _).congr fun j hj=>?_),World.rowIs.drew ((h2.setOther Zgh _).setOther Zgh _),World.rowIs.drew (((h1.alloc _).setOther ZD _).setOther ZD _),?_,hf,by simp[World.setCell];omega,oM,oM,oM,oM,oM⟩
 ·exact ZB
 ·exact Zfa
structure F3(w V:World)(FR NB WB MB UB n k C:Nat)(sv gv pv:Value):Prop where
 row:V.rowIs FR 94 8 (To C sv (.slice (some ⟨NB,0,none⟩) n n) (.slice (some ⟨WB,0,none⟩) n n) (.map (some MB)) gv pv (.slice (some ⟨UB,0,none⟩) k k))
 nb:V.rowIs NB 43 n (fun _=>.int .u32 0)
 wb:V.rowIs WB 3 n (fun _=>.int .i64 0)
 mb:DG V MB 0 (fun _=>none)
 ub:V.rowIs UB 57 k (fun _=>.slice none 0 0)
 bel:Below w.heap.size w V
 fr:w.heap.size=FR
 size:V.heap.size=FR+5
 n1:FR<NB
 n2:FR<WB
 n3:NB<FR+3
 n4:WB<FR+3
 n5:NB≠WB
 n6:MB=FR+3
 n7:UB=FR+4
theorem F2.three{V:World}{NB WB:Nat}(h:F2 w V FR NB WB n C sv gv pv)(k:Nat):
 F3 w ((((V.alloc (.map #[] 0)).setCell ⟨FR,4,none⟩ (.map (some V.heap.size))).alloc (.cells (madeCells #[.slice none 0 0] k) 57)).setCell ⟨FR,7,none⟩ (.slice (some ⟨V.heap.size+1,0,none⟩) k k)) FR NB WB V.heap.size (V.heap.size+1) n k C sv gv pv:=by
 have hs:=h.size;have e1:=h.n1;have e2:=h.n2;have e3:=h.n3;have e4:=h.n4;have hf:=h.fr;have hm:DG (V.alloc (.map #[] 0)) V.heap.size 0 (fun _=>none):=DG.new V;have h2:=World.rowIs_made ((V.alloc (.map #[] 0)).setCell ⟨FR,4,none⟩ (.map (some V.heap.size))) (.slice none 0 0) k 57;rw[show((V.alloc (.map #[] 0)).setCell ⟨FR,4,none⟩ (.map (some V.heap.size))).heap.size=V.heap.size+1 by simp[World.setCell]]at h2;refine⟨((((h.row.alloc _).set 4 _).alloc _).set 7 _).congr fun j hj=>?_,(((h.nb.alloc _).setOther (by show NB≠FR;omega) _).alloc _).setOther (by show NB≠FR;omega) _,(((h.wb.alloc _).setOther (by show WB≠FR;omega) _).alloc _).setOther (by show WB≠FR;omega) _,?_,h2.setOther (by show V.heap.size+1≠FR;omega) _,?_,hf,by simp[World.setCell];omega,e1,e2,e3,e4,h.n5,hs,oM⟩
 ·exact ZB
 ·refine DG.block ?_ (Below.heap_setCell _ _ _ _ (by show V.heap.size≠FR;omega));refine DG.below ?_ (A0 _ _);exact hm.block (Below.heap_setCell _ _ _ _ (by show V.heap.size≠FR;omega))
 ·exact(((h.bel.alloc oM _).setCell Zgx _).alloc (by simp[World.setCell];omega) _).setCell Zgx _
end
structure ZN(V wr:World)(FR UB k:Nat)(c:Cd)(j:Nat)(ub:Nat->Nat):Prop where
 un:Un (fun b=>b=UB) V wr
 row:wr.rowIs UB 57 k (fun p=>if p<j then .slice (some ⟨ub p,0,none⟩) (Bd c p) (Bd c p)else .slice none 0 0)
 rows:∀p,p<j->wr.rowIs (ub p) 43 (Bd c p) (fun _=>.int .u32 0)
 bd:∀p,p<j->FR+5<=ub p/\ub p<wr.heap.size
 inj:∀p q,p<j->q<j->ub p=ub q->p=q
theorem ZN.next{V wr v2:World}{FR UB k:Nat}{c:Cd}{j:Nat}{ub:Nat->Nat}(h:ZN V wr FR UB k c j ub)(hV:FR+5<=V.heap.size)(hU:UB<FR+5)(hb:Below wr.heap.size wr v2):
 ZN V ((v2.alloc (.cells (madeCells #[.int .u32 0] (Bd c j)) 43)).setCell ⟨UB,j,none⟩ (.slice (some ⟨v2.heap.size,0,none⟩) (Bd c j) (Bd c j))) FR UB k c (j+1) (fun p=>if p=j then v2.heap.size else ub p):=by
 have hs:=h.un.size;have hs2:=hb.size;have hb2:Below wr.heap.size wr (v2.alloc (.cells (madeCells #[.int .u32 0] (Bd c j)) 43)):=bel hb (A0 _ _);have hr:=h.row.of_block (hb2.block _ h.row.lt);refine⟨h.un.trans ((Un.of hb2).setCell (p:=⟨UB,j,none⟩) rF _),(hr.set j _).congr fun p hp=>?_,fun p hp=>?_,fun p hp=>?_,fun p q hp hq e=>?_⟩
 ·by_cases e:p=j
  ·subst e;rw[if_pos rfl,if_pos oM,if_pos rfl]
  ·rw[if_neg e];by_cases e2:p<j
   ·rw[if_pos e2,if_pos oM,if_neg e]
   ·rw[if_neg e2,if_neg oM]
 ·by_cases e:p=j
  ·subst e;rw[if_pos rfl];exact(World.rowIs_made v2 (.int .u32 0) (Bd c p) 43).setOther (by show v2.heap.size≠UB;omega) _
  ·rw[if_neg e];have hq:=h.bd p oM;have hr2:=h.rows p oM;exact(hr2.of_block (hb2.block _ hr2.lt)).setOther (by show ub p≠UB;omega) _
 ·have hz:((v2.alloc (.cells (madeCells #[.int .u32 0] (Bd c j)) 43)).setCell ⟨UB,j,none⟩ (.slice (some ⟨v2.heap.size,0,none⟩) (Bd c j) (Bd c j))).heap.size=v2.heap.size+1:=by simp[World.setCell]
  rw[hz];by_cases e:p=j
  ·rw[if_pos e];omega
  ·rw[if_neg e];have hq:=h.bd p oM;omega
 ·by_cases e1:p=j
  ·by_cases e2:q=j
   ·omega
   ·rw[if_pos e1,if_neg e2]at e;have:=h.bd q oM;omega
  ·by_cases e2:q=j
   ·rw[if_neg e1,if_pos e2]at e;have:=h.bd p oM;omega
   ·rw[if_neg e1,if_neg e2]at e;exact h.inj p q oM oM e
theorem Z4(m:Nat)(h:m<=17592186044416)(w:World):(Instr.makeSlice 82 (.int .i64 m) (.int .i64 m)).run prog w=.ok (.slice (some ⟨w.heap.size,0,none⟩) m m) (w.alloc (.cells (madeCells #[.int .i64 0] m) 3)):=
 run_make_row' (P:=prog) 82 3 (.int .i64 0) 8 underlying82 EE rfl .i64 .i64 m oM oM w
theorem Z5(m:Nat)(h:m<=1759218604441)(w:World):(Instr.makeSlice 47 (.int .i64 m) (.int .i64 m)).run prog w=.ok (.slice (some ⟨w.heap.size,0,none⟩) m m) (w.alloc (.cells (madeCells #[.slice none 0 0] m) 57)):=
 run_make_row' (P:=prog) 47 57 (.slice none 0 0) 24 underlying47 PD rfl .i64 .i64 m oM oM w
theorem LF{T:Nat->Prop}{B:Nat}{w V wr:World}{R:Nat}{a:Cn}{X:Nat->Value}{c:Cd}{l:List Hd}(h:AF T B w R a X c l)(hg:Good c)(hT:∀b,T b->b<w.heap.size){gp pp:Option Addr}{gq pq gl pl:Nat}{G P:List (List Int)}(hgv:BC T w (.slice gp G.length gq) G)(hpv:BC T w (.slice pp P.length pq) P){N0 N1 N2 C sc:Nat}{sp:Option Addr}(he:c.sign.length=N0/\c.regs.length=N1/\c.slots.length=N2/\a.C=C/\a.sp=sp/\a.sc=sc/\G.length=gl/\P.length=pl){FR NB WB MB UB:Nat}{ub:Nat->Nat}
 (f3:F3 w V FR NB WB MB UB N1 N0 C (.slice sp N2 sc) (.slice gp gl gq) (.slice pp pl pq)) (nf:ZN V wr FR UB N0 c N0 ub) (hbw:Below w.heap.size w wr) (hrF:wr.rowIs FR 94 8 (To C (.slice sp N2 sc) (.slice (some ⟨NB,0,none⟩) N1 N1) (.slice (some ⟨WB,0,none⟩) N1 N1) (.map (some MB)) (.slice gp gl gq) (.slice pp pl pq) (.slice (some ⟨UB,0,none⟩) N0 N0))):
 ∃FR' NB WB MB UB ub E',Ending.returned (.pointer (some ⟨FR,0,none⟩))=.returned (.pointer (some ⟨FR',0,none⟩))/\FX T w.heap.size E' {a with FR:=FR',NB:=NB,WB:=WB,MB:=MB,UB:=UB,ub:=ub,gv:=.slice gp gl gq,pv:=.slice pp pl pq} c G P wr/\FV T w.heap.size E' {a with FR:=FR',NB:=NB,WB:=WB,MB:=MB,UB:=UB,ub:=ub,gv:=.slice gp gl gq,pv:=.slice pp pl pq} c wr X 0 (fun _=>none) ⟨fun _=>0,fun _=>0,fun _=>[],l,fun _ _=>0⟩/\Below w.heap.size w wr:=by
 obtain⟨e0,e1,e2,e3,e4,e5,e6,e7⟩:=he;have hfr:=f3.fr;have hsz:=f3.size;have n1:=f3.n1;have n2:=f3.n2;have n3:=f3.n3;have n4:=f3.n4;have n5:=f3.n5;have n6:=f3.n6;have n7:=f3.n7;have hszr:=nf.un.size;have hmut:∀b,b<w.heap.size->AX T w.heap.size wr.heap.size b->T b:=fun b hb e=>e.elim id fun k=>by omega
 refine⟨FR,NB,WB,MB,UB,ub,wr.heap.size,rfl,?_,?_,hbw⟩
 ·have hcode:=(h.code.mono hmut).below hbw;refine⟨hbw.size,Nat.le_refl _,hT,h.hS,⟨hcode.hC,hcode.ltC,hcode.cells,hcode.sign,hcode.regs,hcode.slots,hcode.list⟩,?_,?_,?_,?_,by show w.heap.size<=FR/\FR<wr.heap.size;omega,by show w.heap.size<=NB/\NB<wr.heap.size;omega,by show w.heap.size<=WB/\WB<wr.heap.size;omega,by show w.heap.size<=MB/\MB<wr.heap.size;omega,by show w.heap.size<=UB/\UB<wr.heap.size;omega,fun p hp=>?_,?_,fun p hp=>?_,fun p q hp hq e=>?_⟩
  ·have:=(hgv.mono hmut).below hbw;rw[e6]at this;exact this
  ·have:=(hpv.mono hmut).below hbw;rw[e7]at this;exact this
  ·intro j hj;have hj':j<8:=hj;have hc:=hrF.cell hj';show wr.cell? ⟨FR,0+j,none⟩=_;rw[Nat.zero_add,hc];rw[←e0,←e1,←e2,←e3,←e4,←e5];exact ZB
  ·show wr.rowIs UB _ c.sign.length _;rw[e0];exact nf.row.congr fun p hp=>by rw[if_pos hp]
  ·have:=nf.bd p oM;show w.heap.size<=ub p/\ub p<wr.heap.size;omega
  ·show FR≠NB/\FR≠WB/\FR≠MB/\FR≠UB/\NB≠WB/\NB≠MB/\NB≠UB/\WB≠MB/\WB≠UB/\MB≠UB;omega
  ·have:=nf.bd p oM;show ub p≠FR/\ub p≠NB/\ub p≠WB/\ub p≠MB/\ub p≠UB;omega
  ·exact nf.inj p q oM oM e
 ·have hblk:∀b,b<V.heap.size->b≠UB->wr.heap[b]? =V.heap[b]? :=fun b hb hne=>nf.un.block b hb hne;refine⟨?_,?_,f3.mb.block (hblk _ f3.mb.lt oM),fun r hr=>Pt.nil _ _ _ _,fun p hp=>nf.rows p oM,?_,h.len⟩
  ·show wr.rowIs NB _ c.regs.length _;rw[e1];exact f3.nb.of_block (hblk _ f3.nb.lt oM)
  ·show wr.rowIs WB _ c.regs.length _;rw[e1];exact f3.wb.of_block (hblk _ f3.wb.lt oM)
  ·have hs:=(h.slots.mono hmut).below hbw;exact⟨hs.row,hs.sp,hs.le,hs.whole,hs.pats⟩
theorem LD{T:Nat->Prop}{B:Nat}(w:World)(R:Nat)(a:Cn)(X:Nat->Value)(c:Cd)(l:List Hd)(h:AF T B w R a X c l)(hg:Good c)(hT:∀b,T b->b<w.heap.size)(hnm:∀p∈c.sign,p.name.size<=140737488351232)(gv pv:Value)(G P:List (List Int))(hgv:BC T w gv G)(hpv:BC T w pv P):
 Calls prog 26 #[.pointer (some ⟨R,0,none⟩),gv,pv] w fun e w'=>∃FR NB WB MB UB ub E',e=.returned (.pointer (some ⟨FR,0,none⟩))/\FX T w.heap.size E' {a with FR:=FR,NB:=NB,WB:=WB,MB:=MB,UB:=UB,ub:=ub,gv:=gv,pv:=pv} c G P w'/\FV T w.heap.size E' {a with FR:=FR,NB:=NB,WB:=WB,MB:=MB,UB:=UB,ub:=ub,gv:=gv,pv:=pv} c w' X 0 (fun _=>none) ⟨fun _=>0,fun _=>0,fun _=>[],l,fun _ _=>0⟩/\Below w.heap.size w w':=by
 have r0:w.cell? ⟨R,0,none⟩=some (.pointer (some ⟨a.C,0,none⟩)):=h.run.at 0 rfl;have r1:w.cell? ⟨R,1,none⟩=some (.slice a.sp c.slots.length a.sc):=h.run.at 1 rfl;have c0:=h.code.c0;have c1:=h.code.c1;obtain⟨p0,q0,hv0⟩:∃p q,a.v0=.slice p c.sign.length q:=by obtain⟨p,q,e,_⟩:=h.code.sign;exact⟨p,q,e⟩
 obtain⟨p1,q1,hv1⟩:∃p q,a.v1=.slice p c.regs.length q:=by obtain⟨p,q,e,_⟩:=h.code.regs;exact⟨p,q,e⟩
 obtain⟨gp,gq,hgp⟩:∃p q,gv=.slice p G.length q:=by obtain⟨p,q,e,_⟩:=hgv;exact⟨p,q,e⟩
 obtain⟨pp,pq,hpp⟩:∃p q,pv=.slice p P.length q:=by obtain⟨p,q,e,_⟩:=hpv;exact⟨p,q,e⟩
 subst hgp hpp;rw[hv0]at c0;rw[hv1]at c1;have hN1:=hg.regsL;have hN0:=hg.signL;have HH:Hid (AF T B w R a X c l):=h;have HG:Hid (Good c/\(∀b,T b->b<w.heap.size)/\BC T w (.slice gp G.length gq) G/\BC T w (.slice pp P.length pq) P/\∀p∈c.sign,p.name.size<=140737488351232):=⟨hg,hT,hgv,hpv,hnm⟩
 have HV0:Hid (a.v0=.slice p0 c.sign.length q0):=hv0;obtain⟨N0,hN0'⟩:∃N,c.sign.length=N:=⟨_,rfl⟩
 obtain⟨N1,hN1'⟩:∃N,c.regs.length=N:=⟨_,rfl⟩
 obtain⟨N2,hN2'⟩:∃N,c.slots.length=N:=⟨_,rfl⟩
 obtain⟨C,hC⟩:∃C,a.C=C:=⟨_,rfl⟩
 obtain⟨sp,hsp⟩:∃sp,a.sp=sp:=⟨_,rfl⟩
 obtain⟨sc,hsc⟩:∃sc,a.sc=sc:=⟨_,rfl⟩
 obtain⟨gl,hgl⟩:∃gl,G.length=gl:=⟨_,rfl⟩
 obtain⟨pl,hpl⟩:∃pl,P.length=pl:=⟨_,rfl⟩
 rw[hN0',hC]at c0;rw[hN1',hC]at c1;rw[hC]at r0;rw[hsp,hsc,hN2']at r1;rw[hN0']at hN0;rw[hN1']at hN1;have HE:Hid (c.sign.length=N0/\c.regs.length=N1/\c.slots.length=N2/\a.C=C/\a.sp=sp/\a.sc=sc/\G.length=gl/\P.length=pl):=⟨hN0',hN1',hN2',hC,hsp,hsc,hgl,hpl⟩
 rw[hgl,hpl];have mk1:=Lo N1 oM;have mk2:=Z4 N1 oM;have mk3:=Z5 N0 oM;clear h hg hT hgv hpv hnm hv0 hv1 hN0' hN1' hN2' hC hsp hsc hgl hpl;go_enter func26,ntmps26;go_wp2;refine rG (fun v=>v.cell? ⟨R,0,none⟩=some (.pointer (some ⟨C,0,none⟩))/\v.cell? ⟨R,1,none⟩=some (.slice sp N2 sc)) fun hHeld=>?_;refine Tf 0 1 2 3 4 5 ?_;refine Tc 6 7 8 ?_;refine Tb 9 10 ?_;clear hHeld;refine Ap 11 fun K hK=>?_;go_simp;refine Ao hK fun hHeld=>?_;clear hK K;refine AN 12 ?_;refine wpAnyH_done kR ?_ _;go_wp2;obtain⟨W1,hW1⟩:∃W1,(w.alloc (.cells #[.pointer (some ⟨C,0,none⟩),.slice sp N2 sc,.slice none 0 0,.slice none 0 0,.map none,.slice gp gl gq,.slice pp pl pq,.slice none 0 0] 94)).drew=W1:=⟨_,rfl⟩
 have hb1:Below w.heap.size w W1:=by rw[←hW1];exact bel (A0 _ _) (A4 _)
 have hrow:W1.rowIs w.heap.size 94 8 (To C (.slice sp N2 sc) (.slice none 0 0) (.slice none 0 0) (.map none) (.slice gp gl gq) (.slice pp pl pq) (.slice none 0 0)):=by
  rw[←hW1];refine World.rowIs.drew ?_;refine World.rowIs_alloc w _ 94 _ fun j hj=>?_;have hj':j<8:=hj;exact ZB
 have hs1:W1.heap.size=w.heap.size+1:=by rw[←hW1];simp
 rw[hW1];clear hW1 hHeld;have g0:=kc hb1 r0;have g1:=kc hb1 c1;have g2:=hrow.cell (i:=2) dE;have g3:=hrow.cell (i:=3) dE;have q2:=hrow.frozen 2;have q3:=hrow.frozen 3;simp only[To]at g2 g3;have k2a:∀o,(W1.alloc o).cell? ⟨w.heap.size,2,none⟩=some (.slice none 0 0):=fun o=>kc (A0 _ _) g2;have k3a:∀o,(W1.alloc o).cell? ⟨w.heap.size,3,none⟩=some (.slice none 0 0):=fun o=>kc (A0 _ _) g3;have k2b:∀o o',((W1.alloc o).alloc o').cell? ⟨w.heap.size,2,none⟩=some (.slice none 0 0):=fun o o'=>kc (A0 _ _) (k2a o);have k3b:∀o o',((W1.alloc o).alloc o').cell? ⟨w.heap.size,3,none⟩=some (.slice none 0 0):=fun o o'=>kc (A0 _ _) (k3a o);have f2a:∀o,(W1.alloc o).frozen? ⟨w.heap.size,2,none⟩=false:=fun o=>kf (A0 _ _) g2 q2;have f3a:∀o,(W1.alloc o).frozen? ⟨w.heap.size,3,none⟩=false:=fun o=>kf (A0 _ _) g3 q3;have f2b:∀o o',((W1.alloc o).alloc o').frozen? ⟨w.heap.size,2,none⟩=false:=fun o o'=>kf (A0 _ _) (k2a o) (f2a o);have f3b:∀o o',((W1.alloc o).alloc o').frozen? ⟨w.heap.size,3,none⟩=false:=fun o o'=>kf (A0 _ _) (k3a o) (f3a o);have k3c:∀o o' v,(((W1.alloc o).setCell ⟨w.heap.size,2,none⟩ v).alloc o').cell? ⟨w.heap.size,3,none⟩=some (.slice none 0 0):=fun o o' v=>(((hrow.alloc o).set 2 v).alloc o').cell (i:=3) dE;have f3c:∀o o' v,(((W1.alloc o).setCell ⟨w.heap.size,2,none⟩ v).alloc o').frozen? ⟨w.heap.size,3,none⟩=false:=fun o o' v=>(((hrow.alloc o).set 2 v).alloc o').frozen 3;have HFa:=Ac (F2_a (n:=N1) hb1 hrow hs1 rfl);have HFb:=Ac (F2_b (n:=N1) hb1 hrow hs1 rfl);have HFc:=Ac (F2_c (n:=N1) hb1 hrow hs1 rfl);obtain⟨Va,hVa⟩:∃Va,((((W1.alloc (.cells (madeCells #[.int .u32 0] N1) 43)).alloc (.cells (madeCells #[.int .i64 0] N1) 3)).setCell ⟨w.heap.size,2,none⟩ (.slice (some ⟨W1.heap.size,0,none⟩) N1 N1)).setCell ⟨w.heap.size,3,none⟩ (.slice (some ⟨W1.heap.size+1,0,none⟩) N1 N1)).drew=Va:=⟨_,rfl⟩
 obtain⟨Vb,hVb⟩:∃Vb,((((W1.alloc (.cells (madeCells #[.int .u32 0] N1) 43)).setCell ⟨w.heap.size,2,none⟩ (.slice (some ⟨W1.heap.size,0,none⟩) N1 N1)).alloc (.cells (madeCells #[.int .i64 0] N1) 3)).setCell ⟨w.heap.size,3,none⟩ (.slice (some ⟨W1.heap.size+1,0,none⟩) N1 N1)).drew=Vb:=⟨_,rfl⟩
 obtain⟨Vc,hVc⟩:∃Vc,((((W1.alloc (.cells (madeCells #[.int .i64 0] N1) 3)).alloc (.cells (madeCells #[.int .u32 0] N1) 43)).setCell ⟨w.heap.size,2,none⟩ (.slice (some ⟨W1.heap.size+1,0,none⟩) N1 N1)).setCell ⟨w.heap.size,3,none⟩ (.slice (some ⟨W1.heap.size,0,none⟩) N1 N1)).drew=Vc:=⟨_,rfl⟩
 rw[hVa]at HFa;rw[hVb]at HFb;rw[hVc]at HFc;have m1:w.heap.size≠R:=by have:=A3 r0;simp at this;omega
 have m2:w.heap.size≠C:=by have:=A3 c1;simp at this;omega
 have m3:w.heap.size≠W1.heap.size:=oM;have HB1:=Ac hb1;have HRow:=Ac hrow;have HS1:=Ac hs1;have HR0:=Ac r0;have HC0:=Ac c0;obtain⟨FR,hFR⟩:∃FR,w.heap.size=FR:=⟨_,rfl⟩
 have HFR:=Ac hFR;simp only[hFR]at g2 g3 q2 q3 m1 m2 m3 HRow HS1 k2a k3a k2b k3b f2a f3a f2b f3b k3c f3c hVa hVb hVc HFa HFb HFc ⊢;have HVa:=Ac hVa;have HVb:=Ac hVb;have HVc:=Ac hVc;clear r0 r1 c0 c1 hb1 hrow hs1 hFR hVa hVb hVc;refine rG (fun v=>v.cell? ⟨R,0,none⟩=some (.pointer (some ⟨C,0,none⟩))/\v.cell? ⟨C,1,none⟩=some (.slice p1 N1 q1)) fun hHeld=>?_;refine Tf 0 1 2 3 4 5 ?_;refine Tf 6 7 8 9 11 12 ?_;refine Tf 13 14 15 16 17 18 ?_;clear hHeld;refine wpAnyH_ready (rs:=[10,19]) kR sM ?_;refine Ip 10 (fun K hK=>?_) ?_
 ·go_simp;refine Ao hK fun hHeld=>?_;clear hK K;refine Tb 20 21 ?_;clear hHeld;refine wpAnyH_ready (rs:=[19,22]) kR sM ?_;refine Ip 19 (fun K hK=>?_) ?_
  ·go_simp;refine Ao hK fun hHeld=>?_;clear hK K;clear hHeld;refine Ap 22 fun K hK=>?_;exact Zaa
  refine Ip 22 (fun K hK=>?_) AllReadyH.nil;go_simp;refine Ao hK fun hHeld=>?_;clear hK K;clear hHeld;refine Ap 19 fun K hK=>?_;exact Zaa
 refine Ip 19 (fun K hK=>?_) AllReadyH.nil;go_simp;refine Ao hK fun hHeld=>?_;clear hK K;clear hHeld;refine Ap 10 fun K hK=>?_;go_simp;refine Ao hK fun hHeld=>?_;clear hK K;refine Tb 20 21 ?_;clear hHeld;refine Ap 22 fun K hK=>?_;exact Zaa
theorem GH(v0 v1 v2 v3:Value)(c:Cd)(hk:B5 c)(w:World)(hv:D8 w v0 v1 v2 v3 c):
 Calls prog 21 #[.agg #[v0,v1,v2,v3]] w fun e w'=>e=.returned (.tuple #[.int .i64 (Au c).1,.int .i64 (Au c).2])/\Below w.heap.size w w':=by
 by_cases h0:AP c.sign=0
 ·by_cases h1:16384<c.regs.length\/32768<c.list.length
  ·have e:Au c=(181,-1):=by unfold Au Ch;simp[h0,h1]
   rw[e];exact EX v0 v1 v2 v3 c hk w hv 181 (.inr (.inl ⟨h0,h1,rfl⟩))
  ·by_cases h2:4096<c.slots.length
   ·have e:Au c=(180,-1):=by unfold Au Ch;simp[h0,h1,h2]
    rw[e];exact EX v0 v1 v2 v3 c hk w hv 180 (.inr (.inr ⟨h0,fun e=>h1 (.inl e),fun e=>h1 (.inr e),h2,rfl⟩))
   ·refine MO v0 v1 v2 v3 c hk w hv h0 oM oM oM _ _ ?_;have hA:Ch c=if(Al c&&Bl c)=true then 0 else 160:=by
     unfold Ch;rw[if_neg (fun e=>e h0),if_neg h1,if_neg h2]
    unfold Au;rw[hA];by_cases h3:(Al c&&Bl c)=true
    ·rw[if_pos h3,if_pos h3,if_neg dE]
    ·rw[if_neg h3,if_neg h3,if_pos dE]
 ·have e:Au c=(AP c.sign,-1):=by unfold Au Ch;simp[h0]
  rw[e];exact EX v0 v1 v2 v3 c hk w hv _ (.inl ⟨h0,rfl⟩)
end Go.Proofs.YtbinohkcolcbfaaGreat
