import Derived.Test.YtnlgkkbmbijndaaGreatSeal8
import Derived.Test.YtnlgkkbmbijndaaGreatSeal5
import Derived.Test.YtnlgkkbmbijndaaGreatSeal2
import Derived.Deep.AppendLies
import Derived.Deep.DeepCutAuto
import Derived.Lib.AppendStr
import Derived.Test.YtnlgkkbmbijndaaGreatSeal1
namespace Go.Proofs.YtnlgkkbmbijndaaGreat
open Go.RowKit Go.Proofs.Tryz
set_option linter.all false
set_option maxRecDepth 100000
set_option maxHeartbeats 16000000
theorem DK:(prog.info? 4).map (fun i=>(i.zero,i.size,i.bytes))=some (some (.bool false),1,1):=kR
theorem Pp(m:Nat)(h:m<=70368744177664)(w:World):(Instr.makeSlice 88 (.int .i64 m) (.int .i64 m)).run prog w=.ok (.slice (some ⟨w.heap.size,0,none⟩) m m) (w.alloc (.cells (madeCells #[.bool false] m) 4)):=
 run_make_row' (P:=prog) 88 4 (.bool false) 1 underlying88 DK rfl .i64 .i64 m oM oM w
theorem WS.start(w:World)(C n:Nat):WS w.heap.size (w.heap.size+1) C n w.heap.size (.slice none 0 0) (.slice none 0 0) ((w.alloc (.cells (madeCells #[.bool false] n) 4)).alloc (.cells #[.pointer (some ⟨C,0,none⟩),.slice (some ⟨w.heap.size,0,none⟩) n n,.slice none 0 0,.slice none 0 0] 99)) ⟨[],[]⟩:=by
 have h1:=(World.rowIs_made w (.bool false) n 4).alloc (.cells #[.pointer (some ⟨C,0,none⟩),.slice (some ⟨w.heap.size,0,none⟩) n n,.slice none 0 0,.slice none 0 0] 99);have h2:=World.rowIs_alloc (w.alloc (.cells (madeCells #[.bool false] n) 4)) #[.pointer (some ⟨C,0,none⟩),.slice (some ⟨w.heap.size,0,none⟩) n n,.slice none 0 0,.slice none 0 0] 99 (QC C w.heap.size n (.slice none 0 0) (.slice none 0 0)) (fun i hi=>by
  have hi':i<4:=hi;obtain rfl|rfl|rfl|rfl:i=0\/i=1\/i=2\/i=3:=oM
  all_goals rfl)
 have hs:(w.alloc (.cells (madeCells #[.bool false] n) 4)).heap.size=w.heap.size+1:=sM;rw[hs]at h2;exact⟨h2,h1.congr fun j _=>by simp,World.ownsRow_nil _ _ _ 1,World.ownsRow_nil _ _ _ 3,oM,gF _,oM,by simp[Value.ownBlock],by simp[Value.ownBlock],by simp[Value.ownBlock],by simp[Value.ownBlock],by simp[Value.ownBlock]⟩
theorem G6(v0 v1 v2 v3:Value)(c:Cd)(hk:BF c)(w:World)(hv:Ef w v0 v1 v2 v3 c):
 Calls prog 16 #[.agg #[v0,v1,v2,v3]] w fun e w'=>e=.returned (.tuple #[.int .i64 (AE c).1,.int .i64 (AE c).2])/\Below w.heap.size w w':=by
 have hat:BG (w.alloc (.cells #[v0,v1,v2,v3] 27)) w.heap.size v0 v1 v2 v3 c:=by
  refine⟨fun j hj=>?_,hv.below (A7 _ _)⟩;have hj':j<4:=hj;obtain rfl|rfl|rfl|rfl:j=0\/j=1\/j=2\/j=3:=oM
  all_goals simp[go_sem]
 have K1:=Fo w.heap.size v0 v1 v2 v3 c hk _ hat;unfold AE;obtain⟨A,hA⟩:=gA (C0 c)
 rw[hA]at K1 |-;have HK1:Hid (Calls prog 38 #[.pointer (some ⟨w.heap.size,0,none⟩)] (w.alloc (.cells #[v0,v1,v2,v3] 27)) fun e w'=>e=.returned (.int .i64 A)/\Below (w.alloc (.cells #[v0,v1,v2,v3] 27)).heap.size (w.alloc (.cells #[v0,v1,v2,v3] 27)) w'):=K1;clear K1;by_cases h0:A=0
 .rw[if_neg (by simp[h0])];have hsz:c.regs.length<=16384/\c.list.length<=32768/\Av c=true:=by
   rw[h0]at hA;unfold C0 at hA;split at hA
   .rename_i e1;exact absurd hA e1
   .split at hA
    .exact absurd hA dE
    .split at hA
     .exact absurd hA dE
     .split at hA
      .rename_i e1 e2 e3 e4;simp only[Bool.and_eq_true]at e4;exact⟨oM,oM,e4.1⟩
      .exact absurd hA dE
  obtain⟨hn,hN,htm⟩:=hsz;clear hA;subst h0;have KT:=fun E G gi vs vo s b o i w h ok hc hi hb hb0 hb1=>I1 E G w.heap.size c.regs.length gi vs vo s v0 v1 v2 v3 c hk b o i w h rfl ok hn hc hi hb htm hb0 hb1;clear KT;have hr:=hv.list;obtain⟨p3,q3,rfl,hr3⟩:=hv.list;obtain⟨p1,q1,rfl,hr1⟩:=hv.regs;have HAT:Hid (BG (w.alloc (.cells #[v0,.slice p1 c.regs.length q1,v2,.slice p3 c.list.length q3] 27)) w.heap.size v0 (.slice p1 c.regs.length q1) v2 (.slice p3 c.list.length q3) c):=hat;obtain⟨Pr,hPr⟩:∃P,FS c ⟨[],[]⟩ 0 c.list=P:=⟨_,rfl⟩
  rw[hPr];have HP:Hid (FS c ⟨[],[]⟩ 0 c.list=Pr):=hPr;have HROW:Hid (Bl 7 C2 w (.slice p3 c.list.length q3) c.list):=hr;have HIB:Hid (∀i∈c.list,0<=i.bits/\i.bits<4294967296):=hk.ibits;obtain⟨n,hnn⟩:=gA (c.regs.length)
  obtain⟨N,hNN⟩:=gA (c.list.length)
  have HNE:Hid (c.regs.length=n):=hnn;have HNL:Hid (c.list.length=N):=hNN;rw[hnn]at hn HK1 HAT;rw[hNN]at hN HK1 HAT HROW;rw[hnn,hNN];have mk:=fun w=>Pp n oM w;have HOKC:Hid (BF c):=hk;have HTM:Hid (Av c=true):=htm;have f1:=HAT.1.at 1 rfl;have f3:=HAT.1.at 3 rfl;rw[Nat.zero_add]at f1 f3;have HC:Hid (∀v,Below (w.alloc (.cells #[v0,.slice p1 n q1,v2,.slice p3 N q3] 27)).heap.size (w.alloc (.cells #[v0,.slice p1 n q1,v2,.slice p3 N q3] 27)) v->v.cell? ⟨w.heap.size,1,none⟩=some (.slice p1 n q1)/\v.cell? ⟨w.heap.size,3,none⟩=some (.slice p3 N q3)):=fun v hv=>⟨kc hv f1,kc hv f3⟩
  clear hat hv hr hr3 hr1 hPr hnn hNN hk htm f1 f3;go_enter func16,ntmps16;go_wp2_with(go_at_call 38;refine HK1.mono ?_;rintro e w1 ⟨rfl,hb1⟩;obtain⟨g1,g3⟩:=HC.out w1 hb1;have g4:((w1.alloc (.cells (madeCells #[.bool false] n) 4)).alloc (.cells #[.pointer (some ⟨w.heap.size,0,none⟩),.slice (some ⟨w1.heap.size,0,none⟩) n n,.slice none 0 0,.slice none 0 0] 99)).cell? ⟨w.heap.size,3,none⟩=some (.slice p3 N q3):=kc (A7 _ _) (kc (A7 _ _) g3));have HB1:Hid (Below w.heap.size w w1):=bel (A7 _ _) hb1;have HAT1:Hid (BG w1 w.heap.size v0 (.slice p1 n q1) v2 (.slice p3 N q3) c):=HAT.below hb1;have hs1:w.heap.size<w1.heap.size:=by have:=hb1.size;simp at this;omega
  have HS0:=WS.start w1 w.heap.size n;have HB0:Below w1.heap.size w1 ((w1.alloc (.cells (madeCells #[.bool false] n) 4)).alloc (.cells #[.pointer (some ⟨w.heap.size,0,none⟩),.slice (some ⟨w1.heap.size,0,none⟩) n n,.slice none 0 0,.slice none 0 0] 99)):=bel (A7 _ _) (A7 _ _);obtain⟨W2,hW2⟩:=gA ((w1.alloc (.cells (madeCells #[.bool false] n) 4)).alloc (.cells #[.pointer (some ⟨w.heap.size,0,none⟩),.slice (some ⟨w1.heap.size,0,none⟩) n n,.slice none 0 0,.slice none 0 0] 99))
  rw[hW2]at HS0 HB0;try rw[hW2]
  clear HK1 HC hb1 mk HAT g4 hW2
  go_loopw [19] (fun iv wr=>∃ (j:Nat) (s:Wk) (vs vo:Value),j<=N/\iv=.int .i64 j/\Below w1.heap.size w1 wr/\WS w1.heap.size (w1.heap.size+1) w.heap.size n w1.heap.size vs vo wr s/\CH n s/\Hid (FS c s j (c.list.drop j)=Pr)) (fun iv _=>N-(intOf iv).toNat)
  case atStart=>exact⟨0,⟨[],[]⟩,_,_,gI _,rfl,HB0,HS0,CH.start n,by show _=_;rw[List.drop_zero];exact HP.out⟩
  case round=>
   obtain⟨j,s,vs,vo,hj,rfl,hb,hws,hok,hgo⟩:=hrel;have HWS:Hid (WS w1.heap.size (w1.heap.size+1) w.heap.size n w1.heap.size vs vo wr s):=hws;have HOK:Hid (CH n s):=hok;have HBW:Hid (Below w1.heap.size w1 wr):=hb;have d3:=kc hb g3;have l3:=hws.c3;have hol:∃p q,vo=.slice p s.opens.length q:=AF hws.opn;have hnest:=hok.nest;clear HS0 HB0;by_cases hlt:j<N
   .have hll:j<c.list.length:=by rw[HNL.out];exact hlt
    have hgo':=hgo.out;rw[List.drop_eq_getElem_cons hll]at hgo';have hgi:FS c s j (c.list[j]::c.list.drop (j+1))=if Bj c s c.list[j]then FS c (AG s c.list[j]) (j+1) (c.list.drop (j+1))else(160,(j:Int)):=rfl;rw[hgi]at hgo';obtain⟨b,o,rfl,hx⟩:=HROW.at hll;have hbw:b<w.heap.size:=Al (hx 0 (by simp[C2]));have hxw:=(hx.below HB1.out).below hb;have KT:=I1 w1.heap.size (w1.heap.size+1) w.heap.size n w1.heap.size vs vo s v0 (.slice p1 n q1) v2 (.slice (some ⟨b,o,none⟩) N q3) c HOKC.out b (o+j*7) c.list[j] wr hws HNE.out hok hn (HAT1.below hb) hxw oM HTM.out (HIB.out _ (gD hll)).1 (HIB.out _ (gD hll)).2;have hokS:Bj c s c.list[j]=true->CH n (AG s c.list[j]):=fun ht=>by
     have hq:CH c.regs.length s:=by rw[HNE.out];exact hok
     have:=CH.step hq ht;rw[HNE.out]at this;exact this
    obtain⟨X,hX⟩:=gA (Bj c s c.list[j])
    rw[hX]at hgo' hokS;simp only[hX]at KT;have HKT:Hid (Calls prog 39 #[.pointer (some ⟨w1.heap.size+1,0,none⟩),.pointer (some ⟨b,o+j*7,none⟩)] wr fun e w'=>e=.returned (.bool X)/\Below w1.heap.size wr w'/\(X=true->∃vs' vo',WS w1.heap.size (w1.heap.size+1) w.heap.size n w1.heap.size vs' vo' w' (AG s c.list[j]))):=KT;have HGO:Hid ((if X=true then FS c (AG s c.list[j]) (j+1) (c.list.drop (j+1))else(160,(j:Int)))=Pr):=hgo';have HOS:Hid (X=true->CH n (AG s c.list[j])):=hokS;have i1:(0:Int)<=(j:Int):=oM;have i2:(j:Int)<(N:Int):=oM;clear KT hgo hgo' hgi hokS hX hx hxw hws hok hb hol l3;cases X
    .go_wp2_with(go_at_call 39;refine HKT.mono ?_;rintro e w5 ⟨rfl,hb5,hw5⟩;have HB5:Hid (Below w1.heap.size wr w5):=hb5;clear hb5 hw5)
     go_ret2
     refine⟨?_,bel HB1.out (HBW.trans HB5.out)⟩;have:=HGO.out;rw[if_neg dE]at this;rw[<-this];rfl
    .go_wp2_with(go_at_call 39;refine HKT.mono ?_;rintro e w5 ⟨rfl,hb5,hw5⟩;have HB5:Hid (Below w1.heap.size wr w5):=hb5;have HW5:Hid (∃vs' vo',WS w1.heap.size (w1.heap.size+1) w.heap.size n w1.heap.size vs' vo' w5 (AG s c.list[j])):=hw5 fT;clear hb5 hw5);go_roundw
     case rel=>
      obtain⟨vs',vo',hw5⟩:=HW5.out;exact⟨j+1,_,vs',vo',oM,gN,HBW.trans HB5.out,hw5,HOS.out fT,by show _=_;have:=HGO.out;rw[if_pos fT]at this;exact this⟩
     case measure=>simp[intOf];omega
   .have:j=N:=oM;subst this;have hgo':=hgo.out;rw[List.drop_of_length_le (by rw[HNL.out];exact gF _)]at hgo';have hgi:FS c s j []=if s.opens.isEmpty then(0,0)else(160,(j:Int)):=rfl;rw[hgi]at hgo';obtain⟨p,q,rfl⟩:=hol;obtain⟨M,hM⟩:=gA (s.opens.length)
    rw[hM]at l3 hnest;have hE:s.opens.isEmpty=decide (M=0):=by
     rw[<-hM];cases s.opens with
     |nil=>rfl
     |cons a l=>simp
    rw[hE]at hgo';have HGO:Hid ((if decide (M=0)=true then((0:Int),(0:Int))else(160,(j:Int)))=Pr):=hgo';clear hgo hgo' hgi hE hM hws hok hb;by_cases hz:M=0
    .subst hz;go_wp2
     go_ret2
     refine⟨?_,bel HB1.out HBW.out⟩;rw[<-HGO.out];rfl
    .have hz':(0:Int)<(M:Int):=oM;have hz2:0<M:=oM;have HZ:Hid (¬M=0):=hz;clear hz;go_wp2;refine rG (fun v=>v.cell? ⟨w.heap.size,3,none⟩=some (.slice p3 j q3)) fun hJ=>?_;refine wpAnyH_take (i:=0) (v:=?_) A8 kR kR kR A9 (Or.inl ⟨rF,?_⟩) Aa ?_
     rotate_left 1
     ·(intro wS hSw;(try dsimp only at hSw);go_simp;try(with_reducible rfl))
     try simp only[Act.put,List.setIfInBounds_toArray,List.set_cons_zero,List.set_cons_succ]
     refine wpAnyH_take (i:=1) (v:=?_) A8 kR kR kR A9 (Or.inl ⟨rF,?_⟩) Aa ?_
     rotate_left 1
     ·(intro wS hSw;(try dsimp only at hSw);go_simp;try(with_reducible rfl))
     try simp only[Act.put,List.setIfInBounds_toArray,List.set_cons_zero,List.set_cons_succ]
     refine wpAnyH_take (i:=2) (v:=?_) A8 kR kR kR A9 (Or.inl ⟨rF,?_⟩) Aa ?_
     rotate_left 1
     ·(intro wS hSw;(try dsimp only at hSw);go_simp;try(with_reducible rfl))
     try simp only[Act.put,List.setIfInBounds_toArray,List.set_cons_zero,List.set_cons_succ]
     refine wpAnyH_take (i:=3) (v:=?_) A8 kR kR kR A9 (Or.inl ⟨rF,?_⟩) Aa ?_
     rotate_left 1
     ·(intro wS hSw;(try dsimp only at hSw);go_simp;try(with_reducible rfl))
     try simp only[Act.put,List.setIfInBounds_toArray,List.set_cons_zero,List.set_cons_succ]
     refine wpAnyH_take (i:=4) (v:=?_) A8 kR kR kR A9 (Or.inl ⟨rF,?_⟩) Aa ?_
     rotate_left 1
     ·(intro wS hSw;(try dsimp only at hSw);go_simp;try(with_reducible rfl))
     try simp only[Act.put,List.setIfInBounds_toArray,List.set_cons_zero,List.set_cons_succ]
     refine wpAnyH_done kR ?_ _;go_wp2
     go_ret2
     refine⟨?_,(bel HB1.out HBW.out).drew⟩;have:=HGO.out;rw[if_neg (by simpa using HZ.out)]at this;rw[<-this];rfl
 .rw[if_pos h0];have h0':(A==0)=false:=by simpa using h0
  go_enter func16,ntmps16;go_wp2_with(go_at_call 38;refine HK1.mono ?_;rintro e w1 ⟨rfl,hb1⟩)
  all_goals(go_ret2;exact⟨rfl,bel (A7 _ _) hb1⟩)
def Bn(i:Ar):Value:=.agg #[.int .i64 i.op,.int .i64 i.d,.int .i64 i.a,.int .i64 i.b,.int .i64 i.c,.int .i64 i.n,.int .u32 i.bits]
theorem Km{w v:World}{i:Ar}{t:TypeId}(k:Below (w.alloc (.cells #[.int .i64 i.op,.int .i64 i.d,.int .i64 i.a,.int .i64 i.b,.int .i64 i.c,.int .i64 i.n,.int .u32 i.bits] t)).heap.size (w.alloc (.cells #[.int .i64 i.op,.int .i64 i.d,.int .i64 i.a,.int .i64 i.b,.int .i64 i.c,.int .i64 i.n,.int .u32 i.bits] t)) v):Aq v w.heap.size 0 (C2 i):=by
 refine Aq.below (fun j hj=>?_) k;have hj':j<7:=hj;obtain rfl|rfl|rfl|rfl|rfl|rfl|rfl:j=0\/j=1\/j=2\/j=3\/j=4\/j=5\/j=6:=oM
 all_goals simp[go_sem,C2]
theorem Nb(i:Ar)(w:World):Calls prog 108 #[Bn i] w fun e w'=>e=.returned (.bool ((Ag i.op).d != 0))/\Below w.heap.size w w':=by
 have K1:=fun w=>EL i.op w;obtain⟨r,hr⟩:=gA (Ag i.op)
 obtain⟨X,hX⟩:=gA (AB i.op)
 simp only[hr,hX]at K1 |-;obtain⟨L0,L1,L2,L3,L4⟩:=r;obtain⟨op,D,A,B,E,n,bt⟩:=i;unfold Bn;unfold Ch at K1;simp only at K1 |-;have HK:Hid (∀w,Calls prog 74 #[.int .i64 op] w fun e w'=>e=.returned (.tuple #[.agg #[.int .i64 L0,.int .i64 L1,.int .i64 L2,.int .i64 L3,.int .i64 L4],.bool X])/\Below w.heap.size w w'):=K1;clear K1 hr hX;go_enter func108,ntmps108;go_wp2_with(go_at_call 74;refine(HK.out _).mono ?_;rintro e w1 ⟨rfl,hb1⟩);go_ret;exact⟨rfl,bel (bel (A7 _ _) hb1) (A7 _ _)⟩
theorem KJ(i:Ar)(w:World):Calls prog 109 #[Bn i] w fun e w'=>∃v,e=.returned v/\w'.ownsRow w.heap.size 3 1 v (AN i (Ag i.op)).length (BV (AN i (Ag i.op)))/\Below w.heap.size w w':=by
 have K1:=fun w=>EL i.op w;have K2:=fun w h=>E7 w.heap.size 0 i (Ag i.op) w h;clear K2;have K3:=fun b v h=>E7 b 0 i (Ag i.op) v h;have HIC:=fun(v:World) k=>Km (w:=w) (v:=v) (i:=i) (t:=70) k;obtain⟨r,hr⟩:=gA (Ag i.op)
 obtain⟨X,hX⟩:=gA (AB i.op)
 simp only[hr,hX]at K1 K3 |-;obtain⟨RL,hRL⟩:∃x,AN i r=x:=⟨_,rfl⟩
 simp only[hRL]at K3 |-;obtain⟨L0,L1,L2,L3,L4⟩:=r;obtain⟨op,D,A,B,E,n,bt⟩:=i;unfold Bn;unfold Ch at K1 K3;simp only at K1 K3 HIC |-;have HK:Hid (∀w,Calls prog 74 #[.int .i64 op] w fun e w'=>e=.returned (.tuple #[.agg #[.int .i64 L0,.int .i64 L1,.int .i64 L2,.int .i64 L3,.int .i64 L4],.bool X])/\Below w.heap.size w w'):=K1;have HK3:Hid (∀b v,Aq v b 0 (C2 ⟨op,D,A,B,E,n,bt⟩)->Calls prog 77 #[.agg #[.int .i64 L0,.int .i64 L1,.int .i64 L2,.int .i64 L3,.int .i64 L4],.pointer (some ⟨b,0,none⟩)] v fun e w'=>∃u,e=.returned u/\w'.ownsRow v.heap.size 3 1 u RL.length (BV RL)/\Below v.heap.size v w'):=K3;have HCC:Hid (∀v,Below (w.alloc (.cells #[.int .i64 op,.int .i64 D,.int .i64 A,.int .i64 B,.int .i64 E,.int .i64 n,.int .u32 bt] 70)).heap.size (w.alloc (.cells #[.int .i64 op,.int .i64 D,.int .i64 A,.int .i64 B,.int .i64 E,.int .i64 n,.int .u32 bt] 70)) v->Aq v w.heap.size 0 (C2 ⟨op,D,A,B,E,n,bt⟩)):=HIC;clear K1 K3 HIC hr hX hRL;go_enter func109,ntmps109;go_wp2_with(first
  |(go_at_call 74;refine(HK.out _).mono ?_;rintro e w1 ⟨rfl,hb1⟩)
  |(go_at_call 77;refine(HK3.out _ _ (HCC.out _ (bel hb1 (A7 _ _)))).mono ?_;rintro e w2 ⟨u,rfl,hu,hb2⟩;have HU:Hid (w2.ownsRow (w1.alloc (.cells #[.int .i64 L0,.int .i64 L1,.int .i64 L2,.int .i64 L3,.int .i64 L4] 144)).heap.size 3 1 u RL.length (BV RL)):=hu;have HB2:Hid (Below w.heap.size w w2):=bel (bel (bel (A7 _ _) hb1) (A7 _ _)) hb2;have hs:w.heap.size<=(w1.alloc (.cells #[.int .i64 L0,.int .i64 L1,.int .i64 L2,.int .i64 L3,.int .i64 L4] 144)).heap.size:=(bel (bel (A7 _ _) hb1) (A7 _ _)).size;have HSZ:Hid (w.heap.size<=(w1.alloc (.cells #[.int .i64 L0,.int .i64 L1,.int .i64 L2,.int .i64 L3,.int .i64 L4] 144)).heap.size):=hs;clear hu hb2 hs))
 go_ret;exact⟨_,rfl,En HU.out HSZ.out,HB2.out⟩
def AH{α:Type}(f:α->List Value)(l:List α):List Value:=l.flatMap f
theorem Jb{α:Type}{f:α->List Value}{k:Nat}(hf:∀x,(f x).length=k):∀ (l:List α) (i j:Nat) (hi:i<l.length),j<k->(AH f l)[i*k+j]? =(f l[i])[j]?
 |[],i,j,hi,hj=>absurd hi (Nat.not_lt_zero _)
 |a::l,0,j,hi,hj=>by
  have e:AH f (a::l)=f a++AH f l:=by simp[AH]
  rw[e,Nat.zero_mul,Nat.zero_add,List.getElem?_append_left (by rw[hf];exact hj)];rfl
 |a::l,i+1,j,hi,hj=>by
  have e:AH f (a::l)=f a++AH f l:=by simp[AH]
  have e2:(i+1)*k+j-(f a).length=i*k+j:=by rw[hf,Nat.add_mul,Nat.one_mul];omega
  rw[e,List.getElem?_append_right (by rw[hf,Nat.add_mul,Nat.one_mul];omega),e2];exact Jb hf l i j (by simpa using hi) hj
theorem CP{α:Type}(f:α->List Value)(l:List α)(x:α):AH f (l++[x])=AH f l++f x:=by simp[AH]
theorem Fe{α:Type}{f:α->List Value}{k:Nat}(hf:∀x,(f x).length=k){w:World}{B:Nat}{t:TypeId}{v:Value}{l:List α}(h:w.ownsRow B t k v l.length (AH f l)):Bl k f w v l:=by
 by_cases h0:l=[]
 .subst h0;obtain⟨p,c,hv⟩:=AF h;exact⟨p,c,hv,.inl rfl⟩
 .obtain⟨g,cap,hv,_,_,_,_,hcl⟩:=DD h (List.length_pos_iff.2 h0);refine⟨_,cap,hv,.inr ⟨g,0,rfl,fun i hi j hj=>?_⟩⟩;rw[Nat.zero_add];exact hcl _ _ (by rw[Jb hf l i j hi (by rw[<-hf l[i]];exact hj)];exact gB hj)
theorem B1{P:Program}{w w':World}{ops:Array Oper}{rest:List Oper}{o:Oper}{a:Act}{Q:Exit->Act->World->Prop}(hgd:o.guard=none)(s x:Operand)(t:TypeId)
 (ho:o.op=.call {callee:=.builtin .append,args:=#[s,x],argTypes:=#[t,t]}) (v v2 v':Value) (hs:a.eval s=v) (hx:a.eval x=v2) (hr:(Builtin.append_ #[t,t] o.type #[v,v2]).run P w=.ok v' w')
 (h:wpList P ops Q rest (a.put o.dst v') w'):wpList P ops Q (o::rest) a w:=
 wpList_plain hgd fun _ hK=>by
  exact SJ
theorem Jf:∀x:Ar,∀u∈C2 x,u.oneCell'=true:=fun x u hu=>by simp[C2]at hu;rcases hu with rfl|rfl|rfl|rfl|rfl|rfl|rfl<;>rfl
theorem Gc:(prog.info? 70).map (fun i=>(i.zero,i.size,i.bytes))=some (some (.agg #[.int .i64 0,.int .i64 0,.int .i64 0,.int .i64 0,.int .i64 0,.int .i64 0,.int .u32 0]),7,56):=kR


def Na(i:Ar):Bool:=(Ag i.op).d != 0
theorem KZ(op:Int)(w:World):Calls prog 94 #[.int .i64 op] w fun e w'=>e=.returned (.bool (Dx op))/\w'=w:=by
 unfold Dx;by_cases h:3<=op
 all_goals
  go_enter func94,ntmps94;exact QU
theorem OD(a:UInt8)(X:Bool)(h:(a==45)=X):((a.toNat:Int) != 45)= !X:=by
 rw[<-h];have:((a.toNat:Int)==45)=(a==45):=by
  rw[Bool.eq_iff_iff];simp only[beq_iff_eq];constructor
  .intro e;apply UInt8.toNat_inj.1;show a.toNat=45;omega
  .intro e;subst e;rfl
 simp[bne,this]
theorem Lf(i:Ar)(w:World):Calls prog 37 #[Bn i] w fun e w'=>e=.returned (.bool (Na i))/\Below w.heap.size w w':=by
 unfold Na;rcases FH i.op (w.alloc (.cells #[.int .i64 i.op,.int .i64 i.d,.int .i64 i.a,.int .i64 i.b,.int .i64 i.c,.int .i64 i.n,.int .u32 i.bits] 70))with⟨hk,hc⟩|⟨hk,a,b,c,d,e,ht,hc⟩
 .rw[Eu i.op hk];obtain⟨op,D,A,B,E,n,bt⟩:=i;unfold Bn;simp only at hc hk |-;have HK:Hid (Calls prog 48 #[.int .i64 op] (w.alloc (.cells #[.int .i64 op,.int .i64 D,.int .i64 A,.int .i64 B,.int .i64 E,.int .i64 n,.int .u32 bt] 70)) fun e w'=>e=.returned (.tuple #[.string ⟨#[]⟩,.bool false])/\w'=w.alloc (.cells #[.int .i64 op,.int .i64 D,.int .i64 A,.int .i64 B,.int .i64 E,.int .i64 n,.int .u32 bt] 70)):=hc;clear hc;go_enter func37,ntmps37;go_wp2_with(go_at_call 48;refine HK.mono ?_;rintro e w1 ⟨rfl,rfl⟩);go_ret;exact⟨rfl,A7 _ _⟩
 .have h1:=OD a _ ht.a;obtain⟨X,hX⟩:=gA ((Ag i.op).d)
  rw[hX]at h1 |-;obtain⟨op,D,A,B,E,n,bt⟩:=i;unfold Bn;simp only at hc |-;have HK:Hid (∀w,Calls prog 48 #[.int .i64 op] w fun x w'=>x=.returned (.tuple #[.string ⟨#[a,b,c,d,e]⟩,.bool true])/\w'=w):=hc;have ix:∀w,(Instr.index 9 (.string ⟨#[a,b,c,d,e]⟩) (.int .i64 0)).run prog w=.ok (.int .u8 (a.toNat:Int)) w:=fun w=>by simp[Instr.index,run_underlying underlying9,asIntOf,go_sem];rfl
  clear hc ht hX;go_enter func37,ntmps37;go_wp2_with(go_at_call 48;refine(HK.out _).mono ?_;rintro e w1 ⟨rfl,rfl⟩);go_ret;refine⟨Ad ?_,A7 _ _⟩;first|exact h1|(simp only[h1];rfl)|simp[h1,bne]
structure PT(w:World)(C Q:Nat)(A B E:Int)(v:World):Prop where
 bel:Below w.heap.size w v
 hC:w.heap.size<=C
 hQ:Q<C
 le:C<=v.heap.size
 g0:v.cell? ⟨Q,0,none⟩=some (.int .i64 A)
 g1:v.cell? ⟨Q,1,none⟩=some (.int .i64 B)
 g2:v.cell? ⟨Q,2,none⟩=some (.int .i64 E)
theorem PT.next{w:World}{C Q:Nat}{A B E:Int}{v v':World}(h:PT w C Q A B E v)(k:Below C v v'):PT w C Q A B E v':=by
 have c1:∀ {a:Addr} {u:Value},a.block<C->v.cell? a=some u->v'.cell? a=some u:=fun ha hu=>(k.cell ha).trans hu;exact⟨h.bel.trans (k.mono h.hC),h.hC,h.hQ,gH h.le k.size,c1 h.hQ h.g0,c1 h.hQ h.g1,c1 h.hQ h.g2⟩
theorem IN(i:Ar)(w:World):Calls prog 70 #[Bn i] w fun e w'=>∃v,e=.returned v/\w'.ownsRow w.heap.size 3 1 v (AN i (Ag i.op)).length (BV (AN i (Ag i.op)))/\Below w.heap.size w w':=by
 rcases FH i.op (w.alloc (.cells #[.int .i64 i.op,.int .i64 i.d,.int .i64 i.a,.int .i64 i.b,.int .i64 i.c,.int .i64 i.n,.int .u32 i.bits] 70))with⟨hk,hc⟩|⟨hk,a,b,c,d,e,ht,hc⟩
 .rw[Eu i.op hk,show AN i ⟨0,0,0,0,0⟩=[] from rfl];obtain⟨op,D,A,B,E,n,bt⟩:=i;unfold Bn;simp only at hc hk |-;have HK:Hid (Calls prog 48 #[.int .i64 op] (w.alloc (.cells #[.int .i64 op,.int .i64 D,.int .i64 A,.int .i64 B,.int .i64 E,.int .i64 n,.int .u32 bt] 70)) fun e w'=>e=.returned (.tuple #[.string ⟨#[]⟩,.bool false])/\w'=w.alloc (.cells #[.int .i64 op,.int .i64 D,.int .i64 A,.int .i64 B,.int .i64 E,.int .i64 n,.int .u32 bt] 70)):=hc;clear hc;go_enter func70,ntmps70;go_wp2_with(go_at_call 48;refine HK.mono ?_;rintro e w1 ⟨rfl,rfl⟩)
  go_loopw [3,7] (fun lv iv wr=>lv=.slice none 0 0/\iv=.int .i64 0/\Below w.heap.size w wr) (fun _ iv _=>0)
  case atStart=>exact⟨rfl,rfl,bel (A7 _ _) (A7 _ _)⟩
  case round=>
   obtain⟨rfl,rfl,hb⟩:=hrel;go_wp2;go_ret;exact⟨_,rfl,World.ownsRow_nil _ _ _ 1,hb⟩
 .rw[DF];have h1:=OD b _ ht.b;have h2:=OD c _ ht.c;have h3:=OD d _ ht.d;obtain⟨i0,hi0,hz0,hz1,hz3⟩:=info_parts Fq;obtain⟨r,hr⟩:=gA (Ag i.op)
  rw[hr]at h1 h2 h3 |-;obtain⟨L0,L1,L2,L3,L4⟩:=r;obtain⟨op,D,A,B,E,n,bt⟩:=i;unfold Bn;simp only at hc h1 h2 h3 |-;obtain⟨R,hR⟩:=gA ((CL L1 A++CL L2 B)++CL L3 E)
  rw[hR];have HR:Hid ((CL L1 A++CL L2 B)++CL L3 E=R):=hR;have HK:Hid (∀w,Calls prog 48 #[.int .i64 op] w fun x w'=>x=.returned (.tuple #[.string ⟨#[a,b,c,d,e]⟩,.bool true])/\w'=w):=hc;clear hc ht hr hR hk;go_enter func70,ntmps70;go_wp2_with(go_at_call 48;refine(HK.out _).mono ?_;rintro e w1 ⟨rfl,rfl⟩);have HF1:Hid (PT w (w.heap.size+1+1) (w.heap.size+1) A B E ((w.alloc (.cells #[.int .i64 op,.int .i64 D,.int .i64 A,.int .i64 B,.int .i64 E,.int .i64 n,.int .u32 bt] 70)).alloc (.cells #[.int .i64 A,.int .i64 B,.int .i64 E] 3))):=
   ⟨bel (A7 _ _) (A7 _ _),oM,oM,sM,sG,sG,sG⟩
  obtain⟨W,hW⟩:=gA ((w.alloc (.cells #[.int .i64 op,.int .i64 D,.int .i64 A,.int .i64 B,.int .i64 E,.int .i64 n,.int .u32 bt] 70)).alloc (.cells #[.int .i64 A,.int .i64 B,.int .i64 E] 3))
  rw[hW]at HF1 |-;obtain⟨Q,hQ⟩:=gA (w.heap.size+1)
  rw[hQ]at HF1;try rw[hQ]
  clear hW
  go_loopw [3,7] (fun lv iv wr=>PT w (Q+1) Q A B E wr/\∃ (j:Nat) (l:List Int),j<=3/\iv=.int .i64 j/\l.length<=j/\Hid (wr.ownsRow (Q+1) 3 1 lv l.length (BV l))/\Hid ((j=0->l=[])/\(j=1->l=CL L1 A)/\(j=2->l=CL L1 A++CL L2 B)/\(j=3->l=(CL L1 A++CL L2 B)++CL L3 E))) (fun _ iv _=>3-(intOf iv).toNat)
  case atStart=>exact⟨HF1.out,0,[],oM,rfl,sM,World.ownsRow_nil _ _ _ 1,⟨fun _=>rfl,fun h=>absurd h oM,fun h=>absurd h oM,fun h=>absurd h oM⟩⟩
  case round=>
   clear HF1 HK;obtain⟨hF,j,l,hj,rfl,hll,HO,HL⟩:=hrel;have HF:Hid (PT w (Q+1) Q A B E wr):=hF;have hGw:=hF.le;have hn1:Q≠wr.heap.size:=oM;obtain rfl|rfl|rfl|rfl:j=0\/j=1\/j=2\/j=3:=oM
   .have g0:=hF.g0;have f0:=kc (A7 wr (.cells #[.int .i64 A] 3)) g0;have hl0:=HL.1 rfl;have ix:∀w,(Instr.index 9 (.string ⟨#[a,b,c,d,e]⟩) (.int .i64 1)).run prog w=.ok (.int .u8 (b.toNat:Int)) w:=fun w=>by simp[Instr.index,run_underlying underlying9,asIntOf,go_sem];rfl
    have hq:=h1;clear hF h1 h2 h3;by_cases hz:L1=0
    .have hz':(!(L1==0))=false:=by simp[hz]
     rw[hz']at hq;have hq2:((b.toNat:Int)==45)=true:=by simpa[bne]using hq
     have HZ:Hid (L1=0):=hz;clear hz;go_wp2;go_roundw
     case rel=>exact⟨HF.out,1,l,oM,by first|rfl|go_num,oM,HO,⟨fun h=>absurd h oM,fun _=>by rw[hl0];unfold CL;simp[HZ.out],fun h=>absurd h oM,fun h=>absurd h oM⟩⟩
     case measure=>simp[intOf]
    .have hz':(!(L1==0))=true:=by simp[hz]
     rw[hz']at hq;have hq2:((b.toNat:Int)==45)=false:=by simpa[bne]using hq
     have HZ:Hid (¬L1=0):=hz;clear hz;go_wp2_with(first
      |(at_builtin;refine wpList_append_own_at _ rfl _ _ 96 rfl (Q+1) 3 i0 _ 1 8 underlying96 hi0 hz0 hz1 hz3 rfl dE _ l.length (BV l) rfl (World.ownsRow.alloc HO.out _) ⟨wr.heap.size,0,none⟩ 1 1 [.int .i64 A] rfl rfl (World.news_of_block (cs:=#[.int .i64 A]) (t:=3) (fr:=(0,0)) (heap_alloc_new wr _)) Nx mL oM sO ?_;intro v' w3 hown3 hgrow hnil hat;have HO3:Hid (w3.ownsRow (Q+1) 3 1 v' (l.length+1) (BV l++[.int .i64 A])):=hown3;have HB3:Hid (Below (Q+1) wr w3):=(Below.alloc (Below.refl _ _) hGw _).grown hgrow sO (fun q e=>(HO.lt q e).1);clear hown3 hgrow hnil hat))
     go_roundw
     case rel=>exact⟨HF.next HB3.out,1,l++[A],oM,by first|rfl|go_num,sO,by show _;rw[List.length_append,Cn];exact HO3.out,⟨fun h=>absurd h oM,fun _=>by rw[hl0,show CL L1 A=[A]from if_neg HZ.out];try rfl,fun h=>absurd h oM,fun h=>absurd h oM⟩⟩
     case measure=>simp[intOf]
   .have g0:=hF.g1;have f0:=kc (A7 wr (.cells #[.int .i64 B] 3)) g0;have hl0:=HL.2.1 rfl;have ix:∀w,(Instr.index 9 (.string ⟨#[a,b,c,d,e]⟩) (.int .i64 2)).run prog w=.ok (.int .u8 (c.toNat:Int)) w:=fun w=>by simp[Instr.index,run_underlying underlying9,asIntOf,go_sem];rfl
    have hq:=h2;clear hF h1 h2 h3;by_cases hz:L2=0
    .have hz':(!(L2==0))=false:=by simp[hz]
     rw[hz']at hq;have hq2:((c.toNat:Int)==45)=true:=by simpa[bne]using hq
     have HZ:Hid (L2=0):=hz;clear hz;go_wp2;go_roundw
     case rel=>exact⟨HF.out,2,l,oM,by first|rfl|go_num,oM,HO,⟨fun h=>absurd h oM,fun h=>absurd h oM,fun _=>by rw[hl0];unfold CL;simp[HZ.out],fun h=>absurd h oM⟩⟩
     case measure=>simp[intOf]
    .have hz':(!(L2==0))=true:=by simp[hz]
     rw[hz']at hq;have hq2:((c.toNat:Int)==45)=false:=by simpa[bne]using hq
     have HZ:Hid (¬L2=0):=hz;clear hz;go_wp2_with(first
      |(at_builtin;refine wpList_append_own_at _ rfl _ _ 96 rfl (Q+1) 3 i0 _ 1 8 underlying96 hi0 hz0 hz1 hz3 rfl dE _ l.length (BV l) rfl (World.ownsRow.alloc HO.out _) ⟨wr.heap.size,0,none⟩ 1 1 [.int .i64 B] rfl rfl (World.news_of_block (cs:=#[.int .i64 B]) (t:=3) (fr:=(0,0)) (heap_alloc_new wr _)) Nx mL oM sO ?_;intro v' w3 hown3 hgrow hnil hat;have HO3:Hid (w3.ownsRow (Q+1) 3 1 v' (l.length+1) (BV l++[.int .i64 B])):=hown3;have HB3:Hid (Below (Q+1) wr w3):=(Below.alloc (Below.refl _ _) hGw _).grown hgrow sO (fun q e=>(HO.lt q e).1);clear hown3 hgrow hnil hat))
     go_roundw
     case rel=>exact⟨HF.next HB3.out,2,l++[B],oM,by first|rfl|go_num,sO,by show _;rw[List.length_append,Cn];exact HO3.out,⟨fun h=>absurd h oM,fun h=>absurd h oM,fun _=>by rw[hl0,show CL L2 B=[B]from if_neg HZ.out];try rfl,fun h=>absurd h oM⟩⟩
     case measure=>simp[intOf]
   .have g0:=hF.g2;have f0:=kc (A7 wr (.cells #[.int .i64 E] 3)) g0;have hl0:=HL.2.2.1 rfl;have ix:∀w,(Instr.index 9 (.string ⟨#[a,b,c,d,e]⟩) (.int .i64 3)).run prog w=.ok (.int .u8 (d.toNat:Int)) w:=fun w=>by simp[Instr.index,run_underlying underlying9,asIntOf,go_sem];rfl
    have hq:=h3;clear hF h1 h2 h3;by_cases hz:L3=0
    .have hz':(!(L3==0))=false:=by simp[hz]
     rw[hz']at hq;have hq2:((d.toNat:Int)==45)=true:=by simpa[bne]using hq
     have HZ:Hid (L3=0):=hz;clear hz;go_wp2;go_roundw
     case rel=>exact⟨HF.out,3,l,oM,by first|rfl|go_num,oM,HO,⟨fun h=>absurd h oM,fun h=>absurd h oM,fun h=>absurd h oM,fun _=>by rw[hl0];unfold CL;simp[HZ.out]⟩⟩
     case measure=>simp[intOf]
    .have hz':(!(L3==0))=true:=by simp[hz]
     rw[hz']at hq;have hq2:((d.toNat:Int)==45)=false:=by simpa[bne]using hq
     have HZ:Hid (¬L3=0):=hz;clear hz;go_wp2_with(first
      |(at_builtin;refine wpList_append_own_at _ rfl _ _ 96 rfl (Q+1) 3 i0 _ 1 8 underlying96 hi0 hz0 hz1 hz3 rfl dE _ l.length (BV l) rfl (World.ownsRow.alloc HO.out _) ⟨wr.heap.size,0,none⟩ 1 1 [.int .i64 E] rfl rfl (World.news_of_block (cs:=#[.int .i64 E]) (t:=3) (fr:=(0,0)) (heap_alloc_new wr _)) Nx mL oM sO ?_;intro v' w3 hown3 hgrow hnil hat;have HO3:Hid (w3.ownsRow (Q+1) 3 1 v' (l.length+1) (BV l++[.int .i64 E])):=hown3;have HB3:Hid (Below (Q+1) wr w3):=(Below.alloc (Below.refl _ _) hGw _).grown hgrow sO (fun q e=>(HO.lt q e).1);clear hown3 hgrow hnil hat))
     go_roundw
     case rel=>exact⟨HF.next HB3.out,3,l++[E],oM,by first|rfl|go_num,sO,by show _;rw[List.length_append,Cn];exact HO3.out,⟨fun h=>absurd h oM,fun h=>absurd h oM,fun h=>absurd h oM,fun _=>by rw[hl0,show CL L3 E=[E]from if_neg HZ.out];try rfl⟩⟩
     case measure=>simp[intOf]
   .exact SO
theorem BN{B:Nat}{V:World}{e t:TypeId}{z:Value}{sz by':Nat}(ht:prog.underlying t=some (.slice e))(hi:(prog.info? e).map (fun i=>(i.zero,i.size,i.bytes))=some (some z,sz,by'))(hzs:z.cells.size=sz)(hsz:0<sz){p:Option Addr}{n q:Nat}{xs:List Value}(h:V.ownsRow B e sz (.slice p n q) n xs)(hB:B<=V.heap.size)
 (cs:Array Value) (hcs:cs.size=sz) (h1:∀u∈cs.toList,u.oneCell'=true) (hn:n+1<=maxLen) (hb:(n+1)*by'<=140737488355328) (ty:TypeId):
 ∃g c' w',(Builtin.append_ #[t,t] ty #[.slice p n q,.slice (some ⟨V.heap.size,0,none⟩) 1 1]).run prog (V.alloc (.cells cs e))=.ok (.slice (some ⟨g,0,none⟩) (n+1) c') w'/\Below B V w'/\w'.ownsRow B e sz (.slice (some ⟨g,0,none⟩) (n+1) c') (n+1) (xs++cs.toList)/\(∀b,b<V.heap.size->(Value.slice p n q).ownBlock≠some b->w'.heap[b]? =V.heap[b]?)/\((Value.slice p n q).ownBlock=some g\/V.heap.size<g):=by
 obtain⟨i0,hi0,hz0,hz1,hz2⟩:=info_parts hi;have hb0:Below V.heap.size V (V.alloc (.cells cs e)):=A7 _ _;have hs:(V.alloc (.cells cs e)).heap.size=V.heap.size+1:=sM;have h0:=AK h hb0;obtain⟨g,cap,w3,hr,hown,hgrow,hat,hlt⟩:=run_append_lies (P:=prog) (V.alloc (.cells cs e)) t ty B e i0 _ sz by' ht hi0 hz0 hz1 hz2 hzs hsz (.slice p n q) n xs h0 ⟨V.heap.size,0,none⟩ 1 1 cs.toList (by simp[hcs])
  (World.news_of_block (cs:=cs) (t:=e) (fr:=(0,0)) (heap_alloc_new V _)) h1 dE hn hb oM _ rfl
 refine⟨g,cap,w3,hr,(hb0.mono hB).grown hgrow oM (fun q e=>(h0.lt q e).1),hown,fun b hb hne=>?_,?_⟩
 .rw[hgrow.block b oM (Ne.symm hne)];exact hb0.block b hb
 .rcases hat with e|e
  .exact .inl e
  .exact .inr oM
instance:DecidableEq Bd:=fun a b=>by
 cases a;cases b
 simp only[Bd.mk.injEq];exact inferInstanceAs (Decidable (_/\_/\_))
theorem Ci{P:Program}{w:World}{ops:Array Oper}{o:Oper}{a:Act}{K:Act->World->Prop}{Q:Exit->Act->World->Prop}{E:Prop}(hgd:o.guard=none)(t:TypeId)(x y:Operand)(yt:TypeId)
 (ho:o.op=.binOp .neq t x y yt) (v1 v2 v:Value) (hx:a.eval x=v1) (hy:a.eval y=v2) (hg:(eqGuard .neq t x y v1 v2).run P w=.ok () w) (hr:(binOp .neq t v1 v2).run P w=.ok v w) (h:K (a.put o.dst v) w):
 if Region.wanted o (yielded ops a.tmps)=true then Oper.wp P o a w K Q else E:=by
 have hw:Region.wanted o (yielded ops a.tmps)=true:=by simp[Region.wanted,hgd]
 rw[if_pos hw];unfold Oper.wp execOp;simp only[ho,Sem.run_bind,Sem.run_pure,Result.andThen_ok,hx,hy,hg,hr];exact h
theorem O2(a b:Bd)(w:World):(binOp .neq 59 (pv a) (pv b)).run prog w=.ok (.bool (!decide (a=b))) w:=by
 obtain⟨x0,x1,x2⟩:=a;obtain⟨y0,y1,y2⟩:=b;unfold pv;by_cases h0:x0=y0
 .subst h0;by_cases h1:x1=y1
  .subst h1;by_cases h2:x2=y2
   .subst h2;go_simp
   .go_simp
  .go_simp
 .go_simp;exact fun e=>absurd (Go.WideShapes.bytes_inj (by rwa[ByteArray.toList_eq,ByteArray.toList_eq]at e)) h0
theorem Je(p q:Operand)(a b:Bd)(w:World):(eqGuard .neq 59 p q (pv a) (pv b)).run prog w=.ok () w:=by
 obtain⟨x0,x1,x2⟩:=a;obtain⟨y0,y1,y2⟩:=b;unfold pv;simp[eqGuard,go_sem]
theorem Pt(a b:Ty)(w:World):(binOp .neq 62 (Co a) (Co b)).run prog w=.ok (.bool (!decide (a=b))) w:=by
 obtain⟨x0,x1⟩:=a;obtain⟨y0,y1⟩:=b;unfold Co;by_cases h0:x0=y0
 .subst h0;by_cases h1:x1=y1
  .subst h1;go_simp
  .go_simp
 .go_simp
theorem LL(p q:Operand)(a b:Ty)(w:World):(eqGuard .neq 62 p q (Co a) (Co b)).run prog w=.ok () w:=by
 obtain⟨x0,x1⟩:=a;obtain⟨y0,y1⟩:=b;unfold Co;simp[eqGuard,go_sem]
theorem Ps(a b:Sl)(w:World):(binOp .neq 66 (ED a) (ED b)).run prog w=.ok (.bool (!decide (a=b))) w:=by
 obtain⟨⟨x0,x1⟩,x2,x3,x4⟩:=a;obtain⟨⟨y0,y1⟩,y2,y3,y4⟩:=b;unfold ED;by_cases h0:x0=y0
 .subst h0;by_cases h1:x1=y1
  .subst h1;by_cases h2:x2=y2
   .subst h2;by_cases h3:x3=y3
    .subst h3;by_cases h4:x4=y4
     .subst h4;go_simp
     .go_simp
    .go_simp
   .go_simp
  .go_simp
 .go_simp
theorem LK(p q:Operand)(a b:Sl)(w:World):(eqGuard .neq 66 p q (ED a) (ED b)).run prog w=.ok () w:=by
 obtain⟨⟨x0,x1⟩,x2,x3,x4⟩:=a;obtain⟨⟨y0,y1⟩,y2,y3,y4⟩:=b;unfold ED;simp[eqGuard,go_sem]
theorem O1(a b:Ar)(w:World):(binOp .neq 70 (Bn a) (Bn b)).run prog w=.ok (.bool (!decide (a=b))) w:=by
 obtain⟨x0,x1,x2,x3,x4,x5,x6⟩:=a;obtain⟨y0,y1,y2,y3,y4,y5,y6⟩:=b;unfold Bn;by_cases h0:x0=y0
 .subst h0;by_cases h1:x1=y1
  .subst h1;by_cases h2:x2=y2
   .subst h2;by_cases h3:x3=y3
    .subst h3;by_cases h4:x4=y4
     .subst h4;by_cases h5:x5=y5
      .subst h5;by_cases h6:x6=y6
       .subst h6;go_simp
       .go_simp
      .go_simp
     .go_simp
    .go_simp
   .go_simp
  .go_simp
 .go_simp
theorem Jd(p q:Operand)(a b:Ar)(w:World):(eqGuard .neq 70 p q (Bn a) (Bn b)).run prog w=.ok () w:=by
 obtain⟨x0,x1,x2,x3,x4,x5,x6⟩:=a;obtain⟨y0,y1,y2,y3,y4,y5,y6⟩:=b;unfold Bn;simp[eqGuard,go_sem]
theorem A6{p:Prop}(h:p):Hid p:=h
def GQ(l:List Nat):List Value:=l.map fun(b:Nat)=>.int .u8 (b:Int)
theorem Nl(l:List Nat)(b:Nat):GQ (l++[b])=GQ l++[.int .u8 (b:Int)]:=by unfold GQ;rw[List.map_append];rfl
structure Bm(E WB:Nat)(l:List Nat)(v:Value)(w:World):Prop where
 b:w.rowIs WB 51 1 (fun _=>v)
 o:w.ownsRow E 5 1 v l.length (GQ l)
 ge:E<=WB
 le:E<=w.heap.size
theorem Bm.below{E WB:Nat}{l:List Nat}{v:Value}{w w':World}(h:Bm E WB l v w)(k:Below w.heap.size w w'):Bm E WB l v w':=⟨h.b.of_block (k.block _ h.b.lt),AK h.o k,h.ge,gH h.le k.size⟩
def Bh(WB:Nat)(v:Value)(w:World)(v':Value)(w':World):Prop:=w.heap.size<=w'.heap.size/\∀b,b<w.heap.size->b≠WB->v.ownBlock≠some b->w'.heap[b]? =w.heap[b]?/\v'.ownBlock≠some b
theorem Bh.refl(WB:Nat)(v:Value)(w:World):Bh WB v w v w:=⟨gF _,fun b _ _ h=>⟨rfl,h⟩⟩
theorem Bh.trans{WB:Nat}{v v' v'':Value}{w w' w'':World}(h:Bh WB v w v' w')(k:Bh WB v' w' v'' w''):Bh WB v w v'' w'':=
 ⟨gH h.1 k.1,fun b h1 h2 h3=>by
  obtain⟨a1,a2⟩:=h.2 b h1 h2 h3;obtain⟨b1,b2⟩:=k.2 b (Nat.lt_of_lt_of_le h1 h.1) h2 a2
  exact⟨b1.trans a1,b2⟩⟩
theorem Bh.below{E WB:Nat}{l:List Nat}{v v':Value}{w w1 w':World}(hm:Bm E WB l v w)(k:Below w.heap.size w w1)(h:Bh WB v w1 v' w'):Bh WB v w v' w':=
 ⟨gH k.size h.1,fun b h1 h2 h3=>by
  obtain⟨a1,a2⟩:=h.2 b (Nat.lt_of_lt_of_le h1 k.size) h2 h3
  exact⟨a1.trans (k.block b h1),a2⟩⟩
theorem Fa:(prog.info? 5).map (fun i=>(i.zero,i.size,i.bytes))=some (some (.int .u8 0),1,1):=kR
theorem Fw{w:World}{B:Nat}{t t':TypeId}{k n n' b:Nat}{v:Value}{xs:List Value}{f:Nat->Value}(h:w.ownsRow B t k v n xs)(h':w.rowIs b t' n' f)(ht:t≠t'):v.ownBlock≠some b:=by
 intro hb;rcases h.2 with⟨rfl,_⟩|⟨g,cap,cur,rfl,_,hg,_⟩
 .exact absurd (show(none:Option Nat)=some b from hb) sM
 obtain⟨c,hc,-⟩:=h';have e1:g=b:=Option.some.inj hb;rw[e1,hc]at hg;simp only[Option.some.injEq,Obj.cells.injEq]at hg;exact ht hg.2.1.symm
theorem Bm.app{E WB:Nat}{l:List Nat}{v:Value}{w:World}(h:Bm E WB l v w)(hl:l.length<=100000000)(b:Nat):
 ∃p q g c' w',v=.slice p l.length q/\(Builtin.append_ #[49,49] 49 #[.slice p l.length q,.slice (some ⟨w.heap.size,0,none⟩) 1 1]).run prog (w.alloc (.cells #[.int .u8 (b:Int)] 5))=.ok (.slice (some ⟨g,0,none⟩) (l.length+1) c') w'/\w'.cell? ⟨WB,0,none⟩=some (.slice p l.length q)/\w'.frozen? ⟨WB,0,none⟩=false/\Below E w (w'.setCell ⟨WB,0,none⟩ (.slice (some ⟨g,0,none⟩) (l.length+1) c'))/\Bm E WB (l++[b]) (.slice (some ⟨g,0,none⟩) (l.length+1) c') (w'.setCell ⟨WB,0,none⟩ (.slice (some ⟨g,0,none⟩) (l.length+1) c'))/\Bh WB v w (.slice (some ⟨g,0,none⟩) (l.length+1) c') (w'.setCell ⟨WB,0,none⟩ (.slice (some ⟨g,0,none⟩) (l.length+1) c')):=by
 obtain⟨p,q,rfl⟩:=AF h.o;obtain⟨g,c',w',h1,h2,h3,h4,h5⟩:=BN (t:=49) (e:=5) underlying49 Fa rF dE h.o h.le #[.int .u8 (b:Int)] rfl Nx mL oM 49;have hb':=h.b.of_block (h4 _ h.b.lt (Fw h.o h.b dE));refine⟨p,q,g,c',w',rfl,h1,hb'.cell (i:=0) dE,hb'.frozen 0,h2.setCell h.ge _,⟨(hb'.set 0 _).congr fun j hj=>?_,?_,h.ge,by simpa using gH h.le h2.size⟩,by simpa using h2.size,fun k k1 k2 k3=>⟨(gE k2).trans (h4 k k1 k3),fun e=>?_⟩⟩
 .have:j=0:=oM;subst this;rfl
 .rw[List.length_append,Nl];exact SY
 .have e1:g=k:=Option.some.inj e;rcases h5 with q|q
  .exact k3 (by rw[q,e1])
  .omega
theorem CC(E WB:Nat)(l:List Nat)(v:Value)(w:World)(h:Bm E WB l v w)(hl:l.length<=100000000)(n:Nat)(hn:n<256):
 Calls prog 80 #[.pointer (some ⟨WB,0,none⟩),.int .i64 (n:Int)] w fun e w'=>e=.returned (.tuple #[])/\Below E w w'/\∃v',Bm E WB (l++[n]) v' w'/\Bh WB v w v' w':=by
 obtain⟨p,q,g,c',w',rfl,hrun,c0,f0,hb,hW,hO⟩:=h.app hl n;have b0:w.cell? ⟨WB,0,none⟩=some (.slice p l.length q):=h.b.cell (i:=0) dE;have b0':(w.alloc (.cells #[.int .u8 (n:Int)] 5)).cell? ⟨WB,0,none⟩=some (.slice p l.length q):=kc (A7 _ _) b0;have hwr:IntKind.u8.wrap (n:Int)=(n:Int):=by rw[IntKind.wrap_u8'];omega
 have HRUN:=A6 (hrun);have HB:=A6 (hb);have HW:=A6 hW;have HO:=A6 hO;clear hrun hb hW h hO;go_enter func80,ntmps80;go_wp2_with(at_builtin;refine B1 rF _ _ _ rF _ _ _ rF rF HRUN.out ?_);first|go_end0|refine bodyPost_ret (results_none rfl _ _ _) rfl ?_
 exact⟨rfl,HB.out,_,HW.out,HO.out⟩
theorem Bx(E WB:Nat)(l:List Nat)(v:Value)(w:World)(h:Bm E WB l v w)(n:Nat)(hn:n<9223372036854775808)(hl:l.length+(Az n).length<=100000000):
 Calls prog 79 #[.pointer (some ⟨WB,0,none⟩),.int .i64 (n:Int)] w fun e w'=>e=.returned (.tuple #[])/\Below E w w'/\∃v',Bm E WB (l++Az n) v' w'/\Bh WB v w v' w':=by
 have HK:Hid (∀ (m:List Nat) (v:Value) (u:World) (k:Nat),Bm E WB m v u->m.length<=100000000->k<256->Calls prog 80 #[.pointer (some ⟨WB,0,none⟩),.int .i64 (k:Int)] u fun e w'=>e=.returned (.tuple #[])/\Below E u w'/\∃v',Bm E WB (m++[k]) v' w'/\Bh WB v u v' w'):=fun m v u k a b c=>CC E WB m v u a b k c;have HS:Hid (Below E w w/\∃v',Bm E WB l v' w/\Bh WB v w v' w):=⟨Below.refl E w,v,h,Bh.refl _ _ _⟩
 clear h;go_enter func79,ntmps79;go_wp2_with fail
 go_loopw [1] (fun nv wx=>∃ (k:Nat) (m:List Nat),nv=.int .i64 (k:Int)/\Hid (k<9223372036854775808/\m++Az k=l++Az n)/\Hid (Below E w wx/\∃v',Bm E WB m v' wx/\Bh WB v w v' wx)) (fun nv _=>(intOf nv).toNat)
 case atStart=>exact⟨n,l,rfl,⟨hn,rfl⟩,HS.out⟩
 case round=>
  clear HS;obtain⟨k,m,rfl,HE,HJ⟩:=hrel;obtain⟨hk,he⟩:=HE.out;obtain⟨hb,v2,hW,hO⟩:=HJ.out;have HO:=A6 hO;clear hO;have hml:m.length+(Az k).length=l.length+(Az n).length:=by rw[<-List.length_append,he,List.length_append]
  by_cases hlt:k<128
  .have e1:¬ (128:Int)<=(k:Int):=oM;have KS:=A6 (HK.out m v2 wr k hW oM oM);have HN:Hid (m++[k]=l++Az n):=by
    show m++[k]=l++Az n;rw[<-he,Cg hlt]
   have HB:Hid (Below E w wr):=hb;clear hW hb hml HE HJ he;go_wp2_with(go_at_call 80;(with_reducible refine KS.out.mono ?_);rintro e9 w4 ⟨rfl,hb4,hf4⟩;have HB4:=A6 (hb4);have HF4:=A6 (hf4);clear hb4 hf4);first|go_end0|refine bodyPost_ret (results_none rfl _ _ _) rfl ?_|(simp only[Exit.inBlock,Exit.then];refine bodyPost_ret (results_none rfl _ _ _) rfl ?_)
   refine⟨rfl,HB.trans HB4.out,?_⟩;rw[<-HN.out];obtain⟨v5,a1,a2⟩:=HF4.out;exact⟨v5,a1,HO.trans a2⟩
  .have e1:(128:Int)<=(k:Int):=oM;obtain⟨Q,hQ⟩:∃q,k%128+128=q:=⟨_,rfl⟩
   have KS:=A6 (HK.out m v2 wr Q hW oM oM);have HN:Hid ((m++[Q])++Az (k/128)=l++Az n):=by
    show(m++[Q])++Az (k/128)=l++Az n;rw[<-he,CS hlt,hQ];simp
   have HB:Hid (Below E w wr):=hb;have t1:((k:Int).tmod 128)=((k%128:Nat):Int):=by rw[Int.tmod_eq_emod_of_nonneg oM];rfl
   have t2:IntKind.i64.wrap ((k:Int)%128+128)=(Q:Int):=by rw[IntKind.wrap_i64];omega
   have t3:((k:Int).tdiv 128)=((k/128:Nat):Int):=by rw[Int.tdiv_eq_ediv_of_nonneg oM];rfl
   have HK2:Hid (k/128<9223372036854775808):=by show k/128<_;omega
   clear hW hb hml HE HJ he hQ;go_wp2_with(go_at_call 80;(with_reducible refine KS.out.mono ?_);rintro e9 w4 ⟨rfl,hb4,hf4⟩;have HB4:=A6 (hb4);have HF4:=A6 (hf4);clear hb4 hf4);go_roundw
   case rel=>
    obtain⟨v5,a1,a2⟩:=HF4.out;exact⟨k/128,_,by first|rfl|simp,⟨HK2.out,HN.out⟩,HB.trans HB4.out,v5,a1,HO.trans a2⟩
   case measure=>simp[intOf];omega
theorem Ee(E WB:Nat)(l:List Nat)(v:Value)(w:World)(h:Bm E WB l v w)(n:Nat)(hn:n<18446744073709551616)(c:Nat)(hc:c<=1000)(hl:l.length+c<=100000000):
 Calls prog 18 #[.pointer (some ⟨WB,0,none⟩),.int .u64 (n:Int),.int .i64 (c:Int)] w fun e w'=>e=.returned (.tuple #[])/\Below E w w'/\∃v',Bm E WB (l++B0 c n) v' w'/\Bh WB v w v' w':=by
 have HS:Hid (Below E w w/\∃v',Bm E WB l v' w/\Bh WB v w v' w):=⟨Below.refl E w,v,h,Bh.refl _ _ _⟩
 clear h;go_enter func18,ntmps18;go_upto_block 0 with fail;go_wp2_with fail
 go_loopw [1,7] (fun nv iv wx=>∃ (k j:Nat) (m:List Nat),j<=c/\nv=.int .u64 (k:Int)/\iv=.int .i64 (j:Int)/\Hid (k<18446744073709551616/\m++B0 (c-j) k=l++B0 c n)/\Hid (Below E w wx/\∃v',Bm E WB m v' wx/\Bh WB v w v' wx)) (fun _ iv _=>c-(intOf iv).toNat)
 case atStart=>exact⟨n,0,l,gI _,rfl,rfl,⟨hn,rfl⟩,HS.out⟩
 case round=>
  clear HS;obtain⟨k,j,m,hj,rfl,rfl,HE,HJ⟩:=hrel;obtain⟨hk,he⟩:=HE.out;obtain⟨hb,v2,hW,hO⟩:=HJ.out;have HO:=A6 hO;clear hO;have hml:m.length+(c-j)=l.length+c:=by
   have:=congrArg List.length he;rw[List.length_append,List.length_append,AZ,AZ]at this;exact this
  by_cases hlt:j<c
  .have e1:(j:Int)<(c:Int):=oM;obtain⟨p,q,g,c',w',rfl,hrun,c0,f0,hb2,hW2,hO2⟩:=hW.app oM (k%256);have HO2:=A6 (HO.trans hO2);clear hO2;have b0:wr.cell? ⟨WB,0,none⟩=some (.slice p m.length q):=hW.b.cell (i:=0) dE;obtain⟨Q,hQ⟩:∃q,k%256=q:=⟨_,rfl⟩
   rw[hQ]at hrun hW2;have b0':(wr.alloc (.cells #[.int .u8 (Q:Int)] 5)).cell? ⟨WB,0,none⟩=some (.slice p m.length q):=kc (A7 _ _) b0;have hwr:IntKind.u8.wrap (k:Int)=(Q:Int):=by rw[IntKind.wrap_u8'];omega
   have hN:(m++[Q])++B0 (c-(j+1)) (k/256)=l++B0 c n:=by
    rw[<-he,<-hQ,show c-j=(c-(j+1))+1 by omega];show _=m++(k%256::B0 (c-(j+1)) (k/256));simp
   have HN:=A6 (hN);have HRUN:=A6 (hrun);have HB2:=A6 (hb.trans hb2);have HW2:=A6 (hW2);have wj:IntKind.i64.wrap ((j:Int)+1)=((j+1:Nat):Int):=by rw[IntKind.wrap_i64];omega
   have HK2:Hid (k/256<18446744073709551616):=by show k/256<_;omega
   clear hN hrun hb hb2 hW hW2 hml HE HJ he hQ;go_wp2_with(at_builtin;refine B1 rF _ _ _ rF _ _ _ rF rF HRUN.out ?_);go_roundw
   case rel=>exact⟨k/256,j+1,_,oM,by first|rfl|simp,gN,⟨HK2.out,HN.out⟩,HB2.out,_,HW2.out,HO2.out⟩
   case measure=>simp[intOf];omega
  .have e1:¬ (j:Int)<(c:Int):=oM;have hjc:c-j=0:=oM;rw[hjc]at he;have HN:Hid (m=l++B0 c n):=by
    show m=l++B0 c n;rw[<-he];exact(List.append_nil m).symm
   have HQ:Hid (Below E w wr/\∃v',Bm E WB m v' wr/\Bh WB v w v' wr):=HJ.out;clear hb hW hml HE HJ he hlt;go_wp2;first|go_end0|refine bodyPost_ret (results_none rfl _ _ _) rfl ?_|(simp only[Exit.inBlock,Exit.then];refine bodyPost_ret (results_none rfl _ _ _) rfl ?_)
   refine⟨rfl,HQ.1,?_⟩;rw[<-HN.out];exact HQ.2
theorem Hj:∀ (k n:Nat),n<128^(k+1)->(Az n).length<=k+1
 |0,n,h=>by rw[Cg (by simpa using h)];simp
 |k+1,n,h=>by
  by_cases q:n<128
  .rw[Cg q];simp
  .rw[CS q,List.length_cons];have:=Hj k (n/128) (by rw[Nat.pow_succ]at h;omega);omega
theorem AU{n:Nat}(h:n<9223372036854775808):(Az n).length<=9:=Hj 8 n (Nat.lt_of_lt_of_eq h dE)
theorem S4(w:World)(cs:Array Value)(t:TypeId):(w.alloc (.cells cs t)).rowIs w.heap.size t cs.size (fun j=>cs[j]!):=World.rowIs_alloc w cs t (fun j=>cs[j]!) (fun i hi=>by simp[hi])
theorem FP(E WB:Nat)(l:List Nat)(v:Value)(w:World)(h:Bm E WB l v w)(t:Ty)(ht:G0 t)(hl:l.length+20<=100000000):
 Calls prog 43 #[.pointer (some ⟨WB,0,none⟩),.agg #[.int .i64 t.kind,.int .i64 t.par]] w fun e w'=>e=.returned (.tuple #[])/\Below E w w'/\∃v',Bm E WB (l++Dw t) v' w'/\Bh WB v w v' w':=by
 obtain⟨kd,pr⟩:=t;obtain⟨t1,t2,t3,t4,t5⟩:=ht;simp only at t1 t2 t3 t4 t5 |-;obtain⟨K,hK⟩:∃K:Nat,kd=(K:Int):=⟨kd.toNat,oM⟩
 obtain⟨P,hP⟩:∃P:Nat,pr=(P:Int):=⟨pr.toNat,oM⟩
 subst hK hP;have hET:Dw ⟨(K:Int),(P:Int)⟩=[K]++(if K=3 then Az P else []):=by
  unfold Dw CI;simp only[Int.toNat_natCast];by_cases q:K=3
  .simp[q]
  .simp[q]
 have HET:=A6 hET;have hp9:=AU (n:=P) oM;obtain⟨V,hV⟩:=gA (w.alloc (.cells #[.int .i64 (K:Int),.int .i64 (P:Int)] 62))
 have hb0:Below w.heap.size w V:=by rw[<-hV];exact A7 _ _
 have hs0:V.heap.size=w.heap.size+1:=by rw[<-hV];simp
 obtain⟨X,hX⟩:=gA (w.heap.size)
 have x0:V.cell? ⟨X,0,none⟩=some (.int .i64 (K:Int)):=by rw[<-hV,<-hX];simp[go_sem]
 have x1:V.cell? ⟨X,1,none⟩=some (.int .i64 (P:Int)):=by rw[<-hV,<-hX];simp[go_sem]
 have h0:=h.below hb0;have HXN:Hid (X<V.heap.size/\X≠WB/\v.ownBlock≠some X):=⟨oM,by have:=h.b.lt;omega,fun e=>by have:=(h.o.lt _ e).2;omega⟩
 have KS:=A6 (CC E WB l v V h0 oM K oM);have KN:=A6 (fun(m:List Nat) (v:Value) (u:World) (a:Bm E WB m v u) (b:m.length+(Az P).length<=100000000)=>Bx E WB m v u a P oM b);have HBE:Hid (Below E w V):=hb0.mono h.le;have HOV:Hid (∀v' w',Bh WB v V v' w'->Bh WB v w v' w'):=fun v' w' q=>Bh.below h hb0 q;have hll:(l++[K]).length+(Az P).length<=100000000:=by rw[List.length_append,List.length_singleton];omega
 clear h h0 hb0 hs0 hET;go_enter func43,ntmps43;go_upto_region 1 with fail;try rw[hV]
 try rw[hX]
 clear hV hX;go_upto_region 2 with(go_at_call 80;(with_reducible refine KS.out.mono ?_);rintro e9 w4 ⟨rfl,hb4,v4,hm4,ho4⟩;have HB4:=A6 hb4;have HM4:=A6 hm4;have HO4:=A6 ho4;clear hb4 hm4 ho4)
 have hX4:w4.heap[X]? =V.heap[X]? :=(HO4.2 X HXN.1 HXN.2.1 HXN.2.2).1;have y0:=(gC hX4 (a:=⟨X,0,none⟩)).trans x0;have y1:=(gC hX4 (a:=⟨X,1,none⟩)).trans x1;by_cases q:K=3
 .have q3:((K:Int)==3)=true:=by rw[q];rfl
  have HT:Hid (l++Dw ⟨(K:Int),(P:Int)⟩=(l++[K])++Az P):=by
   show l++Dw ⟨(K:Int),(P:Int)⟩=_;rw[HET.out,if_pos q,List.append_assoc]
  have KN4:=A6 (KN.out _ _ _ HM4.out hll);clear hX4 q HET;go_wp2_with(go_at_call 79;(with_reducible refine KN4.out.mono ?_);rintro e9 w5 ⟨rfl,hb5,v5,hm5,ho5⟩;have HB5:=A6 hb5;have HM5:=A6 hm5;have HO5:=A6 ho5;clear hb5 hm5 ho5);first|go_end0|refine bodyPost_ret (results_none rfl _ _ _) rfl ?_
  refine⟨rfl,(HBE.trans HB4.out).trans HB5.out,v5,?_,HOV.out _ _ (HO4.trans HO5.out)⟩;rw[HT.out];exact HM5.out
 .have q3:((K:Int)==3)=false:=sO;have HT:Hid (l++Dw ⟨(K:Int),(P:Int)⟩=l++[K]):=by
   show l++Dw ⟨(K:Int),(P:Int)⟩=_;rw[HET.out,if_neg q,List.append_nil]
  clear hX4 q HET;go_wp2;first|go_end0|refine bodyPost_ret (results_none rfl _ _ _) rfl ?_
  refine⟨rfl,HBE.trans HB4.out,v4,?_,HOV.out _ _ HO4.out⟩;rw[HT.out];exact HM4.out
theorem Ei{t:Ty}(h:G0 t):(Dw t).length<=10:=by
 obtain⟨h1,h2,h3,h4,-⟩:=h;have:=AU (n:=t.par.toNat) oM;unfold Dw CI;rw[List.length_append];split
 .simp;omega
 .simp
theorem Lq(E WB:Nat)(l:List Nat)(v:Value)(w:World)(h:Bm E WB l v w)(s:Sl)(hs:Hl s)(hl:l.length+40<=100000000):
 Calls prog 45 #[.pointer (some ⟨WB,0,none⟩),.agg #[.int .i64 s.ty.kind,.int .i64 s.ty.par,.bool s.keep,.int .u32 s.bits,.int .i64 s.int_]] w fun e w'=>e=.returned (.tuple #[])/\Below E w w'/\∃v',Bm E WB (l++Dr s) v' w'/\Bh WB v w v' w':=by
 obtain⟨⟨kd,pr⟩,kp,bt,it⟩:=s;obtain⟨ht,s2,s3,s4,s5,s6,s7⟩:=hs;simp only at ht s2 s3 s4 s5 s6 s7 |-;have hty:=Ei ht;have KT:=A6 (fun(m:List Nat) (v:Value) (u:World) (a:Bm E WB m v u) (b:m.length+20<=100000000)=>FP E WB m v u a ⟨kd,pr⟩ ht b);simp only at KT;obtain⟨B,hB⟩:∃B:Nat,bt=(B:Int):=⟨bt.toNat,oM⟩
 obtain⟨I,hI⟩:∃I:Nat,it=(I:Int):=⟨it.toNat,oM⟩
 subst hB hI;have hi9:=AU (n:=I) oM;have HET:Hid (Dr ⟨⟨kd,pr⟩,kp,(B:Int),(I:Int)⟩=[if kp=true then 1 else 0]++(Dw ⟨kd,pr⟩++(if kd=2 then Az I else B0 4 B))):=by
  show Dr ⟨⟨kd,pr⟩,kp,(B:Int),(I:Int)⟩=_;unfold Dr;simp only[Int.toNat_natCast]
 obtain⟨Z,hZ⟩:∃z,(if kp=true then 1 else 0:Nat)=z:=⟨_,rfl⟩
 have hZ1:Z<=1:=by rw[<-hZ];split<;>omega
 rw[hZ]at HET;obtain⟨T,hT⟩:∃t,Dw ⟨kd,pr⟩=t:=⟨_,rfl⟩
 rw[hT]at HET KT hty;obtain⟨V,hV⟩:=gA (w.alloc (.cells #[.int .i64 kd,.int .i64 pr,.bool kp,.int .u32 (B:Int),.int .i64 (I:Int)] 66))
 have hb0:Below w.heap.size w V:=by rw[<-hV];exact A7 _ _
 have hs0:V.heap.size=w.heap.size+1:=by rw[<-hV];simp
 obtain⟨X,hX⟩:=gA (w.heap.size)
 have x0:V.cell? ⟨X,0,none⟩=some (.int .i64 kd):=by rw[<-hV,<-hX];simp[go_sem]
 have x1:V.cell? ⟨X,1,none⟩=some (.int .i64 pr):=by rw[<-hV,<-hX];simp[go_sem]
 have x2:V.cell? ⟨X,2,none⟩=some (.bool kp):=by rw[<-hV,<-hX];simp[go_sem]
 have x3:V.cell? ⟨X,3,none⟩=some (.int .u32 (B:Int)):=by rw[<-hV,<-hX];simp[go_sem]
 have x4:V.cell? ⟨X,4,none⟩=some (.int .i64 (I:Int)):=by rw[<-hV,<-hX];simp[go_sem]
 have HXC:Hid (∀u:World,u.heap[X]? =V.heap[X]? ->u.cell? ⟨X,0,none⟩=some (.int .i64 kd)/\u.cell? ⟨X,1,none⟩=some (.int .i64 pr)/\u.cell? ⟨X,3,none⟩=some (.int .u32 (B:Int))/\u.cell? ⟨X,4,none⟩=some (.int .i64 (I:Int))):=fun u hu=>⟨(gC hu (a:=⟨X,0,none⟩)).trans x0,(gC hu (a:=⟨X,1,none⟩)).trans x1,(gC hu (a:=⟨X,3,none⟩)).trans x3,(gC hu (a:=⟨X,4,none⟩)).trans x4⟩
 have h0:=h.below hb0;have HXN:Hid (X<V.heap.size/\X≠WB/\v.ownBlock≠some X):=⟨oM,by have:=h.b.lt;omega,fun e=>by have:=(h.o.lt _ e).2;omega⟩
 have KS:=A6 (CC E WB l v V h0 oM Z oM);have KN:=A6 (fun(m:List Nat) (v:Value) (u:World) (a:Bm E WB m v u) (b:m.length+(Az I).length<=100000000)=>Bx E WB m v u a I oM b);have KF:Hid (∀ (m:List Nat) (v:Value) (u:World),Bm E WB m v u->m.length+4<=100000000->Calls prog 18 #[.pointer (some ⟨WB,0,none⟩),.int .u64 (B:Int),.int .i64 4] u fun e w'=>e=.returned (.tuple #[])/\Below E u w'/\∃v',Bm E WB (m++B0 4 B) v' w'/\Bh WB v u v' w'):=fun m v u a b=>Ee E WB m v u a B oM 4 oM b;have HBE:Hid (Below E w V):=hb0.mono h.le;have HOV:Hid (∀v' w',Bh WB v V v' w'->Bh WB v w v' w'):=fun v' w' q=>Bh.below h hb0 q;have hl1:(l++[Z]).length+20<=100000000:=by rw[List.length_append,List.length_singleton];omega
 have hl2:((l++[Z])++T).length+(Az I).length<=100000000:=by rw[List.length_append,List.length_append,List.length_singleton];omega
 have hl3:((l++[Z])++T).length+4<=100000000:=by rw[List.length_append,List.length_append,List.length_singleton];omega
 have wB:IntKind.u64.wrap (B:Int)=(B:Int):=by unfold IntKind.wrap;simp[IntKind.signed,IntKind.bits];omega
 clear h h0 hb0 hs0 hT ht s2 s3 s4 s5 s6 s7 hi9 hty;go_enter func45,ntmps45;go_upto_region 1 with fail;try rw[hV]
 try rw[hX]
 clear hV hX;go_upto_if 6 with fail;go_cut [4] (fun kv wx=>kv=.int .i64 (Z:Int)/\wx=V)
 case first=>
  cases kp with
  |true=>
   obtain rfl:1=Z:=hZ;go_wp2;go_meet;exact⟨rfl,rfl⟩
  |false=>
   obtain rfl:0=Z:=hZ;go_wp2;go_meet;exact⟨rfl,rfl⟩
 case rest=>
  obtain⟨rfl,rfl⟩:=hcut;clear hZ;go_upto_region 5 with(go_at_call 80;(with_reducible refine KS.out.mono ?_);rintro e9 w4 ⟨rfl,hb4,v4,hm4,ho4⟩;have HB4:=A6 hb4;have HM4:=A6 hm4;have HO4:=A6 ho4;clear hb4 hm4 ho4)
  obtain⟨hX4,hv4⟩:=HO4.out.2 X HXN.out.1 HXN.out.2.1 HXN.out.2.2;obtain⟨y0,y1,y3,y4⟩:=HXC.out w4 hX4;have KT4:=A6 (KT.out _ _ _ HM4.out hl1);clear x0 x1 x2 x3 x4;go_upto_region 6 with(go_at_call 43;(with_reducible refine KT4.out.mono ?_);rintro e9 w5 ⟨rfl,hb5,v5,hm5,ho5⟩;have HB5:=A6 hb5;have HM5:=A6 hm5;have HO5:=A6 ho5;clear hb5 hm5 ho5)
  obtain⟨hX5,hv5⟩:=HO5.2 X (Nat.lt_of_lt_of_le HXN.1 HO4.1) HXN.2.1 hv4;clear y0 y1 y3 y4;obtain⟨y0,y1,y3,y4⟩:=HXC.out w5 (hX5.trans hX4);by_cases q:kd=2
  .have q3:(kd==2)=true:=by simpa using q
   have HT:Hid (l++Dr ⟨⟨kd,pr⟩,kp,(B:Int),(I:Int)⟩=((l++[Z])++T)++Az I):=by
    show l++Dr _=_;rw[HET.out,if_pos q];simp
   have KN5:=A6 (KN.out _ _ _ HM5.out hl2);clear hX4 hX5 hv4 hv5 q HET;go_wp2_with(go_at_call 79;(with_reducible refine KN5.out.mono ?_);rintro e9 w6 ⟨rfl,hb6,v6,hm6,ho6⟩;have HB6:=A6 hb6;have HM6:=A6 hm6;have HO6:=A6 ho6;clear hb6 hm6 ho6);exact SB
  .have q3:(kd==2)=false:=by simpa using q
   have HT:Hid (l++Dr ⟨⟨kd,pr⟩,kp,(B:Int),(I:Int)⟩=((l++[Z])++T)++B0 4 B):=by
    show l++Dr _=_;rw[HET.out,if_neg q];simp
   have KF5:=A6 (KF.out _ _ _ HM5.out hl3);clear hX4 hX5 hv4 hv5 q HET;go_wp2_with(go_at_call 18;(with_reducible refine KF5.out.mono ?_);rintro e9 w6 ⟨rfl,hb6,v6,hm6,ho6⟩;have HB6:=A6 hb6;have HM6:=A6 hm6;have HO6:=A6 ho6;clear hb6 hm6 ho6);exact SB
def Rh(a b:Cd):Bool:=decide (a.sign=b.sign)&&(decide (a.regs=b.regs)&&(decide (a.slots=b.slots)&&decide (a.list=b.list)))
theorem Hc(a:Cd):Rh a a=true:=by simp[Rh]
theorem Ln{w v:World}{a0 a1 a2 a3 b0 b1 b2 b3:Value}{t:TypeId}(k:Below ((w.alloc (.cells #[a0,a1,a2,a3] t)).alloc (.cells #[b0,b1,b2,b3] t)).heap.size ((w.alloc (.cells #[a0,a1,a2,a3] t)).alloc (.cells #[b0,b1,b2,b3] t)) v):
 (v.cell? ⟨w.heap.size,0,none⟩=some a0/\v.cell? ⟨w.heap.size,1,none⟩=some a1/\v.cell? ⟨w.heap.size,2,none⟩=some a2/\v.cell? ⟨w.heap.size,3,none⟩=some a3)/\v.cell? ⟨w.heap.size+1,0,none⟩=some b0/\v.cell? ⟨w.heap.size+1,1,none⟩=some b1/\v.cell? ⟨w.heap.size+1,2,none⟩=some b2/\v.cell? ⟨w.heap.size+1,3,none⟩=some b3:=
 ⟨⟨kc k sG,kc k sG,kc k sG,kc k sG⟩,kc k sG,kc k sG,kc k sG,kc k sG⟩
theorem FD(a0 a1 a2 a3 b0 b1 b2 b3:Value)(a b:Cd)(ha:BF a)(hb:BF b)(w:World)(hA:Ef w a0 a1 a2 a3 a)(hB:Ef w b0 b1 b2 b3 b):
 Calls prog 10 #[.agg #[a0,a1,a2,a3],.agg #[b0,b1,b2,b3]] w fun e w'=>e=.returned (.bool (Rh a b))/\Below w.heap.size w w':=by
 have hl0:=ha.signL;have hm0:=hb.signL;have HV0:Hid (Bl 3 As w a0 a.sign):=hA.sign;have HU0:Hid (Bl 3 As w b0 b.sign):=hB.sign;have hl1:=ha.regsL;have hm1:=hb.regsL;have HV1:Hid (Bl 2 Ed w a1 a.regs):=hA.regs;have HU1:Hid (Bl 2 Ed w b1 b.regs):=hB.regs;have hl2:=ha.slotsL;have hm2:=hb.slotsL;have HV2:Hid (Bl 5 EP w a2 a.slots):=hA.slots;have HU2:Hid (Bl 5 EP w b2 b.slots):=hB.slots;have hl3:=ha.listL;have hm3:=hb.listL;have HV3:Hid (Bl 7 C2 w a3 a.list):=hA.list;have HU3:Hid (Bl 7 C2 w b3 b.list):=hB.list;obtain⟨p0,c0,rfl,-⟩:=hA.sign;obtain⟨q0,d0,rfl,-⟩:=hB.sign;obtain⟨p1,c1,rfl,-⟩:=hA.regs;obtain⟨q1,d1,rfl,-⟩:=hB.regs;obtain⟨p2,c2,rfl,-⟩:=hA.slots;obtain⟨q2,d2,rfl,-⟩:=hB.slots;obtain⟨p3,c3,rfl,-⟩:=hA.list;obtain⟨q3,d3,rfl,-⟩:=hB.list;clear hA hB ha hb;unfold Rh;obtain⟨l0,hL0⟩:∃l,a.sign=l:=⟨_,rfl⟩
 obtain⟨m0,hM0⟩:∃l,b.sign=l:=⟨_,rfl⟩
 rw[hL0]at hl0 HV0 |-;rw[hM0]at hm0 HU0 |-;obtain⟨l1,hL1⟩:∃l,a.regs=l:=⟨_,rfl⟩
 obtain⟨m1,hM1⟩:∃l,b.regs=l:=⟨_,rfl⟩
 rw[hL1]at hl1 HV1 |-;rw[hM1]at hm1 HU1 |-;obtain⟨l2,hL2⟩:∃l,a.slots=l:=⟨_,rfl⟩
 obtain⟨m2,hM2⟩:∃l,b.slots=l:=⟨_,rfl⟩
 rw[hL2]at hl2 HV2 |-;rw[hM2]at hm2 HU2 |-;obtain⟨l3,hL3⟩:∃l,a.list=l:=⟨_,rfl⟩
 obtain⟨m3,hM3⟩:∃l,b.list=l:=⟨_,rfl⟩
 rw[hL3]at hl3 HV3 |-;rw[hM3]at hm3 HU3 |-;clear hL0 hL1 hL2 hL3 hM0 hM1 hM2 hM3;have HLE0:Hid (l0.length=m0.length->(l0=m0↔∀j (h1:j<l0.length) (h2:j<m0.length),l0[j]=m0[j])):=fun hne=>⟨fun e=>by subst e;exact fun j h1 h2=>rfl,fun h=>List.ext_getElem hne h⟩
 obtain⟨N0,hN0⟩:∃N,l0.length=N:=⟨_,rfl⟩
 obtain⟨M0,hM0⟩:∃N,m0.length=N:=⟨_,rfl⟩
 rw[hN0]at hl0 HV0 |-;rw[hM0]at hm0 HU0 |-;have HN0:Hid (l0.length=N0):=hN0;have HM0:Hid (m0.length=M0):=hM0;have HLE1:Hid (l1.length=m1.length->(l1=m1↔∀j (h1:j<l1.length) (h2:j<m1.length),l1[j]=m1[j])):=fun hne=>⟨fun e=>by subst e;exact fun j h1 h2=>rfl,fun h=>List.ext_getElem hne h⟩
 obtain⟨N1,hN1⟩:∃N,l1.length=N:=⟨_,rfl⟩
 obtain⟨M1,hM1⟩:∃N,m1.length=N:=⟨_,rfl⟩
 rw[hN1]at hl1 HV1 |-;rw[hM1]at hm1 HU1 |-;have HN1:Hid (l1.length=N1):=hN1;have HM1:Hid (m1.length=M1):=hM1;have HLE2:Hid (l2.length=m2.length->(l2=m2↔∀j (h1:j<l2.length) (h2:j<m2.length),l2[j]=m2[j])):=fun hne=>⟨fun e=>by subst e;exact fun j h1 h2=>rfl,fun h=>List.ext_getElem hne h⟩
 obtain⟨N2,hN2⟩:∃N,l2.length=N:=⟨_,rfl⟩
 obtain⟨M2,hM2⟩:∃N,m2.length=N:=⟨_,rfl⟩
 rw[hN2]at hl2 HV2 |-;rw[hM2]at hm2 HU2 |-;have HN2:Hid (l2.length=N2):=hN2;have HM2:Hid (m2.length=M2):=hM2;have HLE3:Hid (l3.length=m3.length->(l3=m3↔∀j (h1:j<l3.length) (h2:j<m3.length),l3[j]=m3[j])):=fun hne=>⟨fun e=>by subst e;exact fun j h1 h2=>rfl,fun h=>List.ext_getElem hne h⟩
 obtain⟨N3,hN3⟩:∃N,l3.length=N:=⟨_,rfl⟩
 obtain⟨M3,hM3⟩:∃N,m3.length=N:=⟨_,rfl⟩
 rw[hN3]at hl3 HV3 |-;rw[hM3]at hm3 HU3 |-;have HN3:Hid (l3.length=N3):=hN3;have HM3:Hid (m3.length=M3):=hM3;obtain⟨R,hR⟩:=gA ((decide (l0=m0)&&(decide (l1=m1)&&(decide (l2=m2)&&decide (l3=m3)))))
 rw[hR];have HR:Hid ((decide (l0=m0)&&(decide (l1=m1)&&(decide (l2=m2)&&decide (l3=m3))))=R):=hR;have HBX:Hid (∀v,Below ((w.alloc (.cells #[.slice p0 N0 c0,.slice p1 N1 c1,.slice p2 N2 c2,.slice p3 N3 c3] 27)).alloc (.cells #[.slice q0 M0 d0,.slice q1 M1 d1,.slice q2 M2 d2,.slice q3 M3 d3] 27)).heap.size ((w.alloc (.cells #[.slice p0 N0 c0,.slice p1 N1 c1,.slice p2 N2 c2,.slice p3 N3 c3] 27)).alloc (.cells #[.slice q0 M0 d0,.slice q1 M1 d1,.slice q2 M2 d2,.slice q3 M3 d3] 27)) v->(v.cell? ⟨w.heap.size,0,none⟩=some (.slice p0 N0 c0)/\v.cell? ⟨w.heap.size,1,none⟩=some (.slice p1 N1 c1)/\v.cell? ⟨w.heap.size,2,none⟩=some (.slice p2 N2 c2)/\v.cell? ⟨w.heap.size,3,none⟩=some (.slice p3 N3 c3))/\v.cell? ⟨w.heap.size+1,0,none⟩=some (.slice q0 M0 d0)/\v.cell? ⟨w.heap.size+1,1,none⟩=some (.slice q1 M1 d1)/\v.cell? ⟨w.heap.size+1,2,none⟩=some (.slice q2 M2 d2)/\v.cell? ⟨w.heap.size+1,3,none⟩=some (.slice q3 M3 d3)):=fun v k=>Ln k;have HB0:Hid (Below w.heap.size w ((w.alloc (.cells #[.slice p0 N0 c0,.slice p1 N1 c1,.slice p2 N2 c2,.slice p3 N3 c3] 27)).alloc (.cells #[.slice q0 M0 d0,.slice q1 M1 d1,.slice q2 M2 d2,.slice q3 M3 d3] 27))):=bel (A7 _ _) (A7 _ _);clear hN0 hN1 hN2 hN3 hM0 hM1 hM2 hM3 hR;by_cases e0:N0=M0
 case neg=>
  have hf:R=false:=by
   rw[<-HR.out];have:decide (l0=m0)=false:=decide_eq_false fun e=>e0 (by rw[<-HN0.out,<-HM0.out,e]);rw[this];simp
  subst hf;have h1:((N0:Int)==(M0:Int))=false:=by have:(N0:Int)≠(M0:Int):=oM;simpa using this
  have h2:((N0:Int) != (M0:Int))=true:=by have:(N0:Int)≠(M0:Int):=oM;simpa using this
  have h3:(N0==M0)=false:=by simpa using e0
  clear HV0 HV1 HV2 HV3 HU0 HU1 HU2 HU3 HLE0 HLE1 HLE2 HLE3 e0;exact QQ
 subst e0;by_cases e1:N1=M1
 case neg=>
  have hf:R=false:=by
   rw[<-HR.out];have:decide (l1=m1)=false:=decide_eq_false fun e=>e1 (by rw[<-HN1.out,<-HM1.out,e]);rw[this];simp
  subst hf;have h1:((N1:Int)==(M1:Int))=false:=by have:(N1:Int)≠(M1:Int):=oM;simpa using this
  have h2:((N1:Int) != (M1:Int))=true:=by have:(N1:Int)≠(M1:Int):=oM;simpa using this
  have h3:(N1==M1)=false:=by simpa using e1
  clear HV0 HV1 HV2 HV3 HU0 HU1 HU2 HU3 HLE0 HLE1 HLE2 HLE3 e1;exact QQ
 subst e1;by_cases e2:N2=M2
 case neg=>
  have hf:R=false:=by
   rw[<-HR.out];have:decide (l2=m2)=false:=decide_eq_false fun e=>e2 (by rw[<-HN2.out,<-HM2.out,e]);rw[this];simp
  subst hf;have h1:((N2:Int)==(M2:Int))=false:=by have:(N2:Int)≠(M2:Int):=oM;simpa using this
  have h2:((N2:Int) != (M2:Int))=true:=by have:(N2:Int)≠(M2:Int):=oM;simpa using this
  have h3:(N2==M2)=false:=by simpa using e2
  clear HV0 HV1 HV2 HV3 HU0 HU1 HU2 HU3 HLE0 HLE1 HLE2 HLE3 e2;exact QQ
 subst e2;by_cases e3:N3=M3
 case neg=>
  have hf:R=false:=by
   rw[<-HR.out];have:decide (l3=m3)=false:=decide_eq_false fun e=>e3 (by rw[<-HN3.out,<-HM3.out,e]);rw[this];simp
  subst hf;have h1:((N3:Int)==(M3:Int))=false:=by have:(N3:Int)≠(M3:Int):=oM;simpa using this
  have h2:((N3:Int) != (M3:Int))=true:=by have:(N3:Int)≠(M3:Int):=oM;simpa using this
  have h3:(N3==M3)=false:=by simpa using e3
  clear HV0 HV1 HV2 HV3 HU0 HU1 HU2 HU3 HLE0 HLE1 HLE2 HLE3 e3;exact QQ
 subst e3;go_enter func10,ntmps10;go_wp2;obtain⟨V,hV⟩:=gA (((w.alloc (.cells #[.slice p0 N0 c0,.slice p1 N1 c1,.slice p2 N2 c2,.slice p3 N3 c3] 27)).alloc (.cells #[.slice q0 N0 d0,.slice q1 N1 d1,.slice q2 N2 d2,.slice q3 N3 d3] 27)))
 rw[hV]at HBX HB0 |-;have HBV:Hid (∀v,Below V.heap.size V v->(v.cell? ⟨w.heap.size,0,none⟩=some (.slice p0 N0 c0)/\v.cell? ⟨w.heap.size,1,none⟩=some (.slice p1 N1 c1)/\v.cell? ⟨w.heap.size,2,none⟩=some (.slice p2 N2 c2)/\v.cell? ⟨w.heap.size,3,none⟩=some (.slice p3 N3 c3))/\v.cell? ⟨w.heap.size+1,0,none⟩=some (.slice q0 N0 d0)/\v.cell? ⟨w.heap.size+1,1,none⟩=some (.slice q1 N1 d1)/\v.cell? ⟨w.heap.size+1,2,none⟩=some (.slice q2 N2 d2)/\v.cell? ⟨w.heap.size+1,3,none⟩=some (.slice q3 N3 d3)):=HBX.out;obtain⟨⟨z0,z1,z2,z3⟩,y0,y1,y2,y3⟩:=HBV.out V (Cq V);clear HBX hV
 go_loopw [5] (fun iv wr=>Below V.heap.size V wr/\∃j:Nat,j<=N0/\iv=.int .i64 j/\Hid (∀i (h1:i<l0.length) (h2:i<m0.length),i<j->l0[i]=m0[i])) (fun iv _=>N0-(intOf iv).toNat)
 case atStart=>exact⟨Cq V,0,gI _,rfl,fun i _ _ hi=>absurd hi (Nat.not_lt_zero _)⟩
 case round=>
  obtain⟨hbv,j,hj,rfl,hp⟩:=hrel;obtain⟨⟨g0,g1,g2,g3⟩,g4,g5,g6,g7⟩:=HBV.out wr hbv;by_cases hlt:j<N0
  .have h1:j<l0.length:=by rw[HN0.out];exact hlt
   have h2:j<m0.length:=by rw[HM0.out];exact hlt
   obtain⟨b,o,rfl,hx⟩:=HV0.at h1;obtain⟨b',o',rfl,hy⟩:=HU0.at h2;have hx':=hx.below (bel HB0.out hbv);have hy':=hy.below (bel HB0.out hbv);have x0:=hx'.at 0 rfl;have w0:=hy'.at 0 rfl;have x1:=hx'.at 1 rfl;have w1:=hy'.at 1 rfl;have x2:=hx'.at 2 rfl;have w2:=hy'.at 2 rfl;rw[Nat.add_zero]at x0 w0;have NE:=O2 l0[j] m0[j];have NX:Hid (l0[j]=m0[j]->∀i (h1:i<l0.length) (h2:i<m0.length),i<j+1->l0[i]=m0[i]):=fun e i h1 h2 hi=>by
    exact QV
   have NB:Hid (¬l0[j]=m0[j]->R=false):=fun e=>by
    rw[<-HR.out];have:decide (l0=m0)=false:=decide_eq_false fun e2=>e ((HLE0.out (by rw[HN0.out,HM0.out])).1 e2 j h1 h2);rw[this];simp
   obtain⟨X,hX⟩:=gA (l0[j])
   obtain⟨Y,hY⟩:=gA (m0[j])
   rw[hX]at x0 x1 x2 NX NB;rw[hY]at w0 w1 w2 NX NB;simp only[hX,hY]at NE;obtain⟨D,hD⟩:=gA (decide (X=Y))
   simp only[hD]at NE;unfold pv at NE;have HNE:Hid (∀w,(binOp .neq 59 (.agg #[.string X.name,.int .i64 X.kind,.int .i64 X.len]) (.agg #[.string Y.name,.int .i64 Y.kind,.int .i64 Y.len])).run prog w=.ok (.bool (!D)) w):=NE;have i1:(0:Int)<=(j:Int):=oM;have i2:(j:Int)<(N0:Int):=oM;clear NE hX hY hp hx hy hx' hy';cases D
   .have HB:Hid (¬X=Y):=(show¬X=Y from of_decide_eq_false hD)
    clear hD;go_wp2;refine rG (fun v=>v.cell? ⟨w.heap.size,0,none⟩=some (.slice (some ⟨b,o,none⟩) N0 c0)/\v.cell? ⟨w.heap.size+1,0,none⟩=some (.slice (some ⟨b',o',none⟩) N0 d0)/\v.cell? ⟨b,o+j*3,none⟩=some (.string X.name)/\v.cell? ⟨b,o+j*3+1,none⟩=some (.int .i64 X.kind)/\v.cell? ⟨b,o+j*3+2,none⟩=some (.int .i64 X.len)/\v.cell? ⟨b',o'+j*3,none⟩=some (.string Y.name)/\v.cell? ⟨b',o'+j*3+1,none⟩=some (.int .i64 Y.kind)/\v.cell? ⟨b',o'+j*3+2,none⟩=some (.int .i64 Y.len)) fun hJ=>?_;refine wpAnyH_take (i:=0) (v:=?_) A8 kR kR kR A9 (Or.inl ⟨rF,?_⟩) Aa ?_
    rotate_left 1
    ·(intro wS hSw;(try dsimp only at hSw);go_simp;try(with_reducible rfl))
    try simp only[Act.put,List.setIfInBounds_toArray,List.set_cons_zero,List.set_cons_succ]
    refine wpAnyH_take (i:=1) (v:=?_) A8 kR kR kR A9 (Or.inl ⟨rF,?_⟩) Aa ?_
    rotate_left 1
    ·(intro wS hSw;(try dsimp only at hSw);go_simp;try(with_reducible rfl))
    try simp only[Act.put,List.setIfInBounds_toArray,List.set_cons_zero,List.set_cons_succ]
    refine wpAnyH_take (i:=2) (v:=?_) A8 kR kR kR A9 (Or.inl ⟨rF,?_⟩) Aa ?_
    rotate_left 1
    ·(intro wS hSw;(try dsimp only at hSw);go_simp;try(with_reducible rfl))
    try simp only[Act.put,List.setIfInBounds_toArray,List.set_cons_zero,List.set_cons_succ]
    refine wpAnyH_take (i:=3) (v:=?_) A8 kR kR kR A9 (Or.inl ⟨rF,?_⟩) Aa ?_
    rotate_left 1
    ·(intro wS hSw;(try dsimp only at hSw);go_simp;try(with_reducible rfl))
    try simp only[Act.put,List.setIfInBounds_toArray,List.set_cons_zero,List.set_cons_succ]
    refine wpAnyH_take (i:=4) (v:=?_) A8 kR kR kR A9 (Or.inl ⟨rF,?_⟩) Aa ?_
    rotate_left 1
    ·(intro wS hSw;(try dsimp only at hSw);go_simp;try(with_reducible rfl))
    try simp only[Act.put,List.setIfInBounds_toArray,List.set_cons_zero,List.set_cons_succ]
    refine wpAnyH_take (i:=5) (v:=?_) A8 kR kR kR A9 (Or.inl ⟨rF,?_⟩) Aa ?_
    rotate_left 1
    ·(intro wS hSw;(try dsimp only at hSw);go_simp;try(with_reducible rfl))
    try simp only[Act.put,List.setIfInBounds_toArray,List.set_cons_zero,List.set_cons_succ]
    refine wpAnyH_take (i:=6) (v:=?_) A8 kR kR kR A9 (Or.inl ⟨rF,?_⟩) Aa ?_
    rotate_left 1
    ·(intro wS hSw;(try dsimp only at hSw);go_simp;try(with_reducible rfl))
    try simp only[Act.put,List.setIfInBounds_toArray,List.set_cons_zero,List.set_cons_succ]
    refine wpAnyH_take (i:=7) (v:=?_) A8 kR kR kR A9 (Or.inl ⟨rF,?_⟩) Aa ?_
    rotate_left 1
    ·(intro wS hSw;(try dsimp only at hSw);go_simp;try(with_reducible rfl))
    try simp only[Act.put,List.setIfInBounds_toArray,List.set_cons_zero,List.set_cons_succ]
    refine wpAnyH_take (i:=8) (v:=?_) A8 kR kR kR A9 (Or.inl ⟨rF,?_⟩) Aa ?_
    rotate_left 1
    ·(intro wS hSw;(try dsimp only at hSw);go_simp;try(with_reducible rfl))
    try simp only[Act.put,List.setIfInBounds_toArray,List.set_cons_zero,List.set_cons_succ]
    refine wpAnyH_take (i:=9) (v:=?_) A8 kR kR kR A9 (Or.inl ⟨rF,?_⟩) Aa ?_
    rotate_left 1
    ·(intro wS hSw;(try dsimp only at hSw);go_simp;try(with_reducible rfl))
    try simp only[Act.put,List.setIfInBounds_toArray,List.set_cons_zero,List.set_cons_succ]
    clear hJ;refine AP 10 fun K hK=>?_;refine Ci rF _ _ _ _ rF _ _ _ rF rF (Je _ _ X Y _) (HNE.out _) ?_;exact QO
   .have HE:Hid (X=Y):=(show X=Y from of_decide_eq_true hD)
    clear hD;go_wp2;refine rG (fun v=>v.cell? ⟨w.heap.size,0,none⟩=some (.slice (some ⟨b,o,none⟩) N0 c0)/\v.cell? ⟨w.heap.size+1,0,none⟩=some (.slice (some ⟨b',o',none⟩) N0 d0)/\v.cell? ⟨b,o+j*3,none⟩=some (.string X.name)/\v.cell? ⟨b,o+j*3+1,none⟩=some (.int .i64 X.kind)/\v.cell? ⟨b,o+j*3+2,none⟩=some (.int .i64 X.len)/\v.cell? ⟨b',o'+j*3,none⟩=some (.string Y.name)/\v.cell? ⟨b',o'+j*3+1,none⟩=some (.int .i64 Y.kind)/\v.cell? ⟨b',o'+j*3+2,none⟩=some (.int .i64 Y.len)) fun hJ=>?_;refine wpAnyH_take (i:=0) (v:=?_) A8 kR kR kR A9 (Or.inl ⟨rF,?_⟩) Aa ?_
    rotate_left 1
    ·(intro wS hSw;(try dsimp only at hSw);go_simp;try(with_reducible rfl))
    try simp only[Act.put,List.setIfInBounds_toArray,List.set_cons_zero,List.set_cons_succ]
    refine wpAnyH_take (i:=1) (v:=?_) A8 kR kR kR A9 (Or.inl ⟨rF,?_⟩) Aa ?_
    rotate_left 1
    ·(intro wS hSw;(try dsimp only at hSw);go_simp;try(with_reducible rfl))
    try simp only[Act.put,List.setIfInBounds_toArray,List.set_cons_zero,List.set_cons_succ]
    refine wpAnyH_take (i:=2) (v:=?_) A8 kR kR kR A9 (Or.inl ⟨rF,?_⟩) Aa ?_
    rotate_left 1
    ·(intro wS hSw;(try dsimp only at hSw);go_simp;try(with_reducible rfl))
    try simp only[Act.put,List.setIfInBounds_toArray,List.set_cons_zero,List.set_cons_succ]
    refine wpAnyH_take (i:=3) (v:=?_) A8 kR kR kR A9 (Or.inl ⟨rF,?_⟩) Aa ?_
    rotate_left 1
    ·(intro wS hSw;(try dsimp only at hSw);go_simp;try(with_reducible rfl))
    try simp only[Act.put,List.setIfInBounds_toArray,List.set_cons_zero,List.set_cons_succ]
    refine wpAnyH_take (i:=4) (v:=?_) A8 kR kR kR A9 (Or.inl ⟨rF,?_⟩) Aa ?_
    rotate_left 1
    ·(intro wS hSw;(try dsimp only at hSw);go_simp;try(with_reducible rfl))
    try simp only[Act.put,List.setIfInBounds_toArray,List.set_cons_zero,List.set_cons_succ]
    refine wpAnyH_take (i:=5) (v:=?_) A8 kR kR kR A9 (Or.inl ⟨rF,?_⟩) Aa ?_
    rotate_left 1
    ·(intro wS hSw;(try dsimp only at hSw);go_simp;try(with_reducible rfl))
    try simp only[Act.put,List.setIfInBounds_toArray,List.set_cons_zero,List.set_cons_succ]
    refine wpAnyH_take (i:=6) (v:=?_) A8 kR kR kR A9 (Or.inl ⟨rF,?_⟩) Aa ?_
    rotate_left 1
    ·(intro wS hSw;(try dsimp only at hSw);go_simp;try(with_reducible rfl))
    try simp only[Act.put,List.setIfInBounds_toArray,List.set_cons_zero,List.set_cons_succ]
    refine wpAnyH_take (i:=7) (v:=?_) A8 kR kR kR A9 (Or.inl ⟨rF,?_⟩) Aa ?_
    rotate_left 1
    ·(intro wS hSw;(try dsimp only at hSw);go_simp;try(with_reducible rfl))
    try simp only[Act.put,List.setIfInBounds_toArray,List.set_cons_zero,List.set_cons_succ]
    refine wpAnyH_take (i:=8) (v:=?_) A8 kR kR kR A9 (Or.inl ⟨rF,?_⟩) Aa ?_
    rotate_left 1
    ·(intro wS hSw;(try dsimp only at hSw);go_simp;try(with_reducible rfl))
    try simp only[Act.put,List.setIfInBounds_toArray,List.set_cons_zero,List.set_cons_succ]
    refine wpAnyH_take (i:=9) (v:=?_) A8 kR kR kR A9 (Or.inl ⟨rF,?_⟩) Aa ?_
    rotate_left 1
    ·(intro wS hSw;(try dsimp only at hSw);go_simp;try(with_reducible rfl))
    try simp only[Act.put,List.setIfInBounds_toArray,List.set_cons_zero,List.set_cons_succ]
    clear hJ;refine AP 10 fun K hK=>?_;refine Ci rF _ _ _ _ rF _ _ _ rF rF (Je _ _ X Y _) (HNE.out _) ?_;exact QN
  .have hjN:j=N0:=oM;have HF0:Hid (l0=m0):=(HLE0.out (by rw[HN0.out,HM0.out])).2 fun i h1 h2=>hp.out i h1 h2 (by rw[hjN,<-HN0.out];exact h1);have HBW0:Hid (Below V.heap.size V wr):=hbv;subst hjN;clear hp hbv;go_wp2
   go_loopw [6] (fun iv wr=>Below V.heap.size V wr/\∃j:Nat,j<=N1/\iv=.int .i64 j/\Hid (∀i (h1:i<l1.length) (h2:i<m1.length),i<j->l1[i]=m1[i])) (fun iv _=>N1-(intOf iv).toNat)
   case atStart=>exact⟨HBW0.out,0,gI _,rfl,fun i _ _ hi=>absurd hi (Nat.not_lt_zero _)⟩
   case round=>
    obtain⟨hbv,j,hj,rfl,hp⟩:=hrel;obtain⟨⟨g0,g1,g2,g3⟩,g4,g5,g6,g7⟩:=HBV.out wr hbv;by_cases hlt:j<N1
    .have h1:j<l1.length:=by rw[HN1.out];exact hlt
     have h2:j<m1.length:=by rw[HM1.out];exact hlt
     obtain⟨b,o,rfl,hx⟩:=HV1.at h1;obtain⟨b',o',rfl,hy⟩:=HU1.at h2;have hx':=hx.below (bel HB0.out hbv);have hy':=hy.below (bel HB0.out hbv);have x0:=hx'.at 0 rfl;have w0:=hy'.at 0 rfl;have x1:=hx'.at 1 rfl;have w1:=hy'.at 1 rfl;rw[Nat.add_zero]at x0 w0;have NE:=Pt l1[j] m1[j];have NX:Hid (l1[j]=m1[j]->∀i (h1:i<l1.length) (h2:i<m1.length),i<j+1->l1[i]=m1[i]):=fun e i h1 h2 hi=>by
      exact QV
     have NB:Hid (¬l1[j]=m1[j]->R=false):=fun e=>by
      rw[<-HR.out];have:decide (l1=m1)=false:=decide_eq_false fun e2=>e ((HLE1.out (by rw[HN1.out,HM1.out])).1 e2 j h1 h2);rw[this];simp
     obtain⟨X,hX⟩:=gA (l1[j])
     obtain⟨Y,hY⟩:=gA (m1[j])
     rw[hX]at x0 x1 NX NB;rw[hY]at w0 w1 NX NB;simp only[hX,hY]at NE;obtain⟨D,hD⟩:=gA (decide (X=Y))
     simp only[hD]at NE;unfold Co at NE;have HNE:Hid (∀w,(binOp .neq 62 (.agg #[.int .i64 X.kind,.int .i64 X.par]) (.agg #[.int .i64 Y.kind,.int .i64 Y.par])).run prog w=.ok (.bool (!D)) w):=NE;have i1:(0:Int)<=(j:Int):=oM;have i2:(j:Int)<(N1:Int):=oM;clear NE hX hY hp hx hy hx' hy';cases D
     .have HB:Hid (¬X=Y):=(show¬X=Y from of_decide_eq_false hD)
      clear hD;go_wp2;refine rG (fun v=>v.cell? ⟨w.heap.size,1,none⟩=some (.slice (some ⟨b,o,none⟩) N1 c1)/\v.cell? ⟨w.heap.size+1,1,none⟩=some (.slice (some ⟨b',o',none⟩) N1 d1)/\v.cell? ⟨b,o+j*2,none⟩=some (.int .i64 X.kind)/\v.cell? ⟨b,o+j*2+1,none⟩=some (.int .i64 X.par)/\v.cell? ⟨b',o'+j*2,none⟩=some (.int .i64 Y.kind)/\v.cell? ⟨b',o'+j*2+1,none⟩=some (.int .i64 Y.par)) fun hJ=>?_;refine wpAnyH_take (i:=0) (v:=?_) A8 kR kR kR A9 (Or.inl ⟨rF,?_⟩) Aa ?_
      rotate_left 1
      ·(intro wS hSw;(try dsimp only at hSw);go_simp;try(with_reducible rfl))
      try simp only[Act.put,List.setIfInBounds_toArray,List.set_cons_zero,List.set_cons_succ]
      refine wpAnyH_take (i:=1) (v:=?_) A8 kR kR kR A9 (Or.inl ⟨rF,?_⟩) Aa ?_
      rotate_left 1
      ·(intro wS hSw;(try dsimp only at hSw);go_simp;try(with_reducible rfl))
      try simp only[Act.put,List.setIfInBounds_toArray,List.set_cons_zero,List.set_cons_succ]
      refine wpAnyH_take (i:=2) (v:=?_) A8 kR kR kR A9 (Or.inl ⟨rF,?_⟩) Aa ?_
      rotate_left 1
      ·(intro wS hSw;(try dsimp only at hSw);go_simp;try(with_reducible rfl))
      try simp only[Act.put,List.setIfInBounds_toArray,List.set_cons_zero,List.set_cons_succ]
      refine wpAnyH_take (i:=3) (v:=?_) A8 kR kR kR A9 (Or.inl ⟨rF,?_⟩) Aa ?_
      rotate_left 1
      ·(intro wS hSw;(try dsimp only at hSw);go_simp;try(with_reducible rfl))
      try simp only[Act.put,List.setIfInBounds_toArray,List.set_cons_zero,List.set_cons_succ]
      refine wpAnyH_take (i:=4) (v:=?_) A8 kR kR kR A9 (Or.inl ⟨rF,?_⟩) Aa ?_
      rotate_left 1
      ·(intro wS hSw;(try dsimp only at hSw);go_simp;try(with_reducible rfl))
      try simp only[Act.put,List.setIfInBounds_toArray,List.set_cons_zero,List.set_cons_succ]
      refine wpAnyH_take (i:=5) (v:=?_) A8 kR kR kR A9 (Or.inl ⟨rF,?_⟩) Aa ?_
      rotate_left 1
      ·(intro wS hSw;(try dsimp only at hSw);go_simp;try(with_reducible rfl))
      try simp only[Act.put,List.setIfInBounds_toArray,List.set_cons_zero,List.set_cons_succ]
      refine wpAnyH_take (i:=6) (v:=?_) A8 kR kR kR A9 (Or.inl ⟨rF,?_⟩) Aa ?_
      rotate_left 1
      ·(intro wS hSw;(try dsimp only at hSw);go_simp;try(with_reducible rfl))
      try simp only[Act.put,List.setIfInBounds_toArray,List.set_cons_zero,List.set_cons_succ]
      refine wpAnyH_take (i:=7) (v:=?_) A8 kR kR kR A9 (Or.inl ⟨rF,?_⟩) Aa ?_
      rotate_left 1
      ·(intro wS hSw;(try dsimp only at hSw);go_simp;try(with_reducible rfl))
      try simp only[Act.put,List.setIfInBounds_toArray,List.set_cons_zero,List.set_cons_succ]
      refine wpAnyH_take (i:=8) (v:=?_) A8 kR kR kR A9 (Or.inl ⟨rF,?_⟩) Aa ?_
      rotate_left 1
      ·(intro wS hSw;(try dsimp only at hSw);go_simp;try(with_reducible rfl))
      try simp only[Act.put,List.setIfInBounds_toArray,List.set_cons_zero,List.set_cons_succ]
      refine wpAnyH_take (i:=9) (v:=?_) A8 kR kR kR A9 (Or.inl ⟨rF,?_⟩) Aa ?_
      rotate_left 1
      ·(intro wS hSw;(try dsimp only at hSw);go_simp;try(with_reducible rfl))
      try simp only[Act.put,List.setIfInBounds_toArray,List.set_cons_zero,List.set_cons_succ]
      clear hJ;refine AP 10 fun K hK=>?_;refine Ci rF _ _ _ _ rF _ _ _ rF rF (LL _ _ X Y _) (HNE.out _) ?_;exact QO
     .have HE:Hid (X=Y):=(show X=Y from of_decide_eq_true hD)
      clear hD;go_wp2;refine rG (fun v=>v.cell? ⟨w.heap.size,1,none⟩=some (.slice (some ⟨b,o,none⟩) N1 c1)/\v.cell? ⟨w.heap.size+1,1,none⟩=some (.slice (some ⟨b',o',none⟩) N1 d1)/\v.cell? ⟨b,o+j*2,none⟩=some (.int .i64 X.kind)/\v.cell? ⟨b,o+j*2+1,none⟩=some (.int .i64 X.par)/\v.cell? ⟨b',o'+j*2,none⟩=some (.int .i64 Y.kind)/\v.cell? ⟨b',o'+j*2+1,none⟩=some (.int .i64 Y.par)) fun hJ=>?_;refine wpAnyH_take (i:=0) (v:=?_) A8 kR kR kR A9 (Or.inl ⟨rF,?_⟩) Aa ?_
      rotate_left 1
      ·(intro wS hSw;(try dsimp only at hSw);go_simp;try(with_reducible rfl))
      try simp only[Act.put,List.setIfInBounds_toArray,List.set_cons_zero,List.set_cons_succ]
      refine wpAnyH_take (i:=1) (v:=?_) A8 kR kR kR A9 (Or.inl ⟨rF,?_⟩) Aa ?_
      rotate_left 1
      ·(intro wS hSw;(try dsimp only at hSw);go_simp;try(with_reducible rfl))
      try simp only[Act.put,List.setIfInBounds_toArray,List.set_cons_zero,List.set_cons_succ]
      refine wpAnyH_take (i:=2) (v:=?_) A8 kR kR kR A9 (Or.inl ⟨rF,?_⟩) Aa ?_
      rotate_left 1
      ·(intro wS hSw;(try dsimp only at hSw);go_simp;try(with_reducible rfl))
      try simp only[Act.put,List.setIfInBounds_toArray,List.set_cons_zero,List.set_cons_succ]
      refine wpAnyH_take (i:=3) (v:=?_) A8 kR kR kR A9 (Or.inl ⟨rF,?_⟩) Aa ?_
      rotate_left 1
      ·(intro wS hSw;(try dsimp only at hSw);go_simp;try(with_reducible rfl))
      try simp only[Act.put,List.setIfInBounds_toArray,List.set_cons_zero,List.set_cons_succ]
      refine wpAnyH_take (i:=4) (v:=?_) A8 kR kR kR A9 (Or.inl ⟨rF,?_⟩) Aa ?_
      rotate_left 1
      ·(intro wS hSw;(try dsimp only at hSw);go_simp;try(with_reducible rfl))
      try simp only[Act.put,List.setIfInBounds_toArray,List.set_cons_zero,List.set_cons_succ]
      refine wpAnyH_take (i:=5) (v:=?_) A8 kR kR kR A9 (Or.inl ⟨rF,?_⟩) Aa ?_
      rotate_left 1
      ·(intro wS hSw;(try dsimp only at hSw);go_simp;try(with_reducible rfl))
      try simp only[Act.put,List.setIfInBounds_toArray,List.set_cons_zero,List.set_cons_succ]
      refine wpAnyH_take (i:=6) (v:=?_) A8 kR kR kR A9 (Or.inl ⟨rF,?_⟩) Aa ?_
      rotate_left 1
      ·(intro wS hSw;(try dsimp only at hSw);go_simp;try(with_reducible rfl))
      try simp only[Act.put,List.setIfInBounds_toArray,List.set_cons_zero,List.set_cons_succ]
      refine wpAnyH_take (i:=7) (v:=?_) A8 kR kR kR A9 (Or.inl ⟨rF,?_⟩) Aa ?_
      rotate_left 1
      ·(intro wS hSw;(try dsimp only at hSw);go_simp;try(with_reducible rfl))
      try simp only[Act.put,List.setIfInBounds_toArray,List.set_cons_zero,List.set_cons_succ]
      refine wpAnyH_take (i:=8) (v:=?_) A8 kR kR kR A9 (Or.inl ⟨rF,?_⟩) Aa ?_
      rotate_left 1
      ·(intro wS hSw;(try dsimp only at hSw);go_simp;try(with_reducible rfl))
      try simp only[Act.put,List.setIfInBounds_toArray,List.set_cons_zero,List.set_cons_succ]
      refine wpAnyH_take (i:=9) (v:=?_) A8 kR kR kR A9 (Or.inl ⟨rF,?_⟩) Aa ?_
      rotate_left 1
      ·(intro wS hSw;(try dsimp only at hSw);go_simp;try(with_reducible rfl))
      try simp only[Act.put,List.setIfInBounds_toArray,List.set_cons_zero,List.set_cons_succ]
      clear hJ;refine AP 10 fun K hK=>?_;refine Ci rF _ _ _ _ rF _ _ _ rF rF (LL _ _ X Y _) (HNE.out _) ?_;exact QN
    .have hjN:j=N1:=oM;have HF1:Hid (l1=m1):=(HLE1.out (by rw[HN1.out,HM1.out])).2 fun i h1 h2=>hp.out i h1 h2 (by rw[hjN,<-HN1.out];exact h1);have HBW1:Hid (Below V.heap.size V wr):=hbv;subst hjN;clear hp hbv;go_wp2
     go_loopw [7] (fun iv wr=>Below V.heap.size V wr/\∃j:Nat,j<=N2/\iv=.int .i64 j/\Hid (∀i (h1:i<l2.length) (h2:i<m2.length),i<j->l2[i]=m2[i])) (fun iv _=>N2-(intOf iv).toNat)
     case atStart=>exact⟨HBW1.out,0,gI _,rfl,fun i _ _ hi=>absurd hi (Nat.not_lt_zero _)⟩
     case round=>
      obtain⟨hbv,j,hj,rfl,hp⟩:=hrel;obtain⟨⟨g0,g1,g2,g3⟩,g4,g5,g6,g7⟩:=HBV.out wr hbv;by_cases hlt:j<N2
      .have h1:j<l2.length:=by rw[HN2.out];exact hlt
       have h2:j<m2.length:=by rw[HM2.out];exact hlt
       obtain⟨b,o,rfl,hx⟩:=HV2.at h1;obtain⟨b',o',rfl,hy⟩:=HU2.at h2;have hx':=hx.below (bel HB0.out hbv);have hy':=hy.below (bel HB0.out hbv);have x0:=hx'.at 0 rfl;have w0:=hy'.at 0 rfl;have x1:=hx'.at 1 rfl;have w1:=hy'.at 1 rfl;have x2:=hx'.at 2 rfl;have w2:=hy'.at 2 rfl;have x3:=hx'.at 3 rfl;have w3:=hy'.at 3 rfl;have x4:=hx'.at 4 rfl;have w4:=hy'.at 4 rfl;rw[Nat.add_zero]at x0 w0;have NE:=Ps l2[j] m2[j];have NX:Hid (l2[j]=m2[j]->∀i (h1:i<l2.length) (h2:i<m2.length),i<j+1->l2[i]=m2[i]):=fun e i h1 h2 hi=>by
        exact QV
       have NB:Hid (¬l2[j]=m2[j]->R=false):=fun e=>by
        rw[<-HR.out];have:decide (l2=m2)=false:=decide_eq_false fun e2=>e ((HLE2.out (by rw[HN2.out,HM2.out])).1 e2 j h1 h2);rw[this];simp
       obtain⟨X,hX⟩:=gA (l2[j])
       obtain⟨Y,hY⟩:=gA (m2[j])
       rw[hX]at x0 x1 x2 x3 x4 NX NB;rw[hY]at w0 w1 w2 w3 w4 NX NB;simp only[hX,hY]at NE;obtain⟨D,hD⟩:=gA (decide (X=Y))
       simp only[hD]at NE;unfold ED at NE;have HNE:Hid (∀w,(binOp .neq 66 (.agg #[.int .i64 X.ty.kind,.int .i64 X.ty.par,.bool X.keep,.int .u32 X.bits,.int .i64 X.int_]) (.agg #[.int .i64 Y.ty.kind,.int .i64 Y.ty.par,.bool Y.keep,.int .u32 Y.bits,.int .i64 Y.int_])).run prog w=.ok (.bool (!D)) w):=NE;have i1:(0:Int)<=(j:Int):=oM;have i2:(j:Int)<(N2:Int):=oM;clear NE hX hY hp hx hy hx' hy';cases D
       .have HB:Hid (¬X=Y):=(show¬X=Y from of_decide_eq_false hD)
        clear hD;go_wp2;refine rG (fun v=>v.cell? ⟨w.heap.size,2,none⟩=some (.slice (some ⟨b,o,none⟩) N2 c2)/\v.cell? ⟨w.heap.size+1,2,none⟩=some (.slice (some ⟨b',o',none⟩) N2 d2)/\v.cell? ⟨b,o+j*5,none⟩=some (.int .i64 X.ty.kind)/\v.cell? ⟨b,o+j*5+1,none⟩=some (.int .i64 X.ty.par)/\v.cell? ⟨b,o+j*5+2,none⟩=some (.bool X.keep)/\v.cell? ⟨b,o+j*5+3,none⟩=some (.int .u32 X.bits)/\v.cell? ⟨b,o+j*5+4,none⟩=some (.int .i64 X.int_)/\v.cell? ⟨b',o'+j*5,none⟩=some (.int .i64 Y.ty.kind)/\v.cell? ⟨b',o'+j*5+1,none⟩=some (.int .i64 Y.ty.par)/\v.cell? ⟨b',o'+j*5+2,none⟩=some (.bool Y.keep)/\v.cell? ⟨b',o'+j*5+3,none⟩=some (.int .u32 Y.bits)/\v.cell? ⟨b',o'+j*5+4,none⟩=some (.int .i64 Y.int_)) fun hJ=>?_;refine wpAnyH_take (i:=0) (v:=?_) A8 kR kR kR A9 (Or.inl ⟨rF,?_⟩) Aa ?_
        rotate_left 1
        ·(intro wS hSw;(try dsimp only at hSw);go_simp;try(with_reducible rfl))
        try simp only[Act.put,List.setIfInBounds_toArray,List.set_cons_zero,List.set_cons_succ]
        refine wpAnyH_take (i:=1) (v:=?_) A8 kR kR kR A9 (Or.inl ⟨rF,?_⟩) Aa ?_
        rotate_left 1
        ·(intro wS hSw;(try dsimp only at hSw);go_simp;try(with_reducible rfl))
        try simp only[Act.put,List.setIfInBounds_toArray,List.set_cons_zero,List.set_cons_succ]
        refine wpAnyH_take (i:=2) (v:=?_) A8 kR kR kR A9 (Or.inl ⟨rF,?_⟩) Aa ?_
        rotate_left 1
        ·(intro wS hSw;(try dsimp only at hSw);go_simp;try(with_reducible rfl))
        try simp only[Act.put,List.setIfInBounds_toArray,List.set_cons_zero,List.set_cons_succ]
        refine wpAnyH_take (i:=3) (v:=?_) A8 kR kR kR A9 (Or.inl ⟨rF,?_⟩) Aa ?_
        rotate_left 1
        ·(intro wS hSw;(try dsimp only at hSw);go_simp;try(with_reducible rfl))
        try simp only[Act.put,List.setIfInBounds_toArray,List.set_cons_zero,List.set_cons_succ]
        refine wpAnyH_take (i:=4) (v:=?_) A8 kR kR kR A9 (Or.inl ⟨rF,?_⟩) Aa ?_
        rotate_left 1
        ·(intro wS hSw;(try dsimp only at hSw);go_simp;try(with_reducible rfl))
        try simp only[Act.put,List.setIfInBounds_toArray,List.set_cons_zero,List.set_cons_succ]
        refine wpAnyH_take (i:=5) (v:=?_) A8 kR kR kR A9 (Or.inl ⟨rF,?_⟩) Aa ?_
        rotate_left 1
        ·(intro wS hSw;(try dsimp only at hSw);go_simp;try(with_reducible rfl))
        try simp only[Act.put,List.setIfInBounds_toArray,List.set_cons_zero,List.set_cons_succ]
        refine wpAnyH_take (i:=6) (v:=?_) A8 kR kR kR A9 (Or.inl ⟨rF,?_⟩) Aa ?_
        rotate_left 1
        ·(intro wS hSw;(try dsimp only at hSw);go_simp;try(with_reducible rfl))
        try simp only[Act.put,List.setIfInBounds_toArray,List.set_cons_zero,List.set_cons_succ]
        refine wpAnyH_take (i:=7) (v:=?_) A8 kR kR kR A9 (Or.inl ⟨rF,?_⟩) Aa ?_
        rotate_left 1
        ·(intro wS hSw;(try dsimp only at hSw);go_simp;try(with_reducible rfl))
        try simp only[Act.put,List.setIfInBounds_toArray,List.set_cons_zero,List.set_cons_succ]
        refine wpAnyH_take (i:=8) (v:=?_) A8 kR kR kR A9 (Or.inl ⟨rF,?_⟩) Aa ?_
        rotate_left 1
        ·(intro wS hSw;(try dsimp only at hSw);go_simp;try(with_reducible rfl))
        try simp only[Act.put,List.setIfInBounds_toArray,List.set_cons_zero,List.set_cons_succ]
        refine wpAnyH_take (i:=9) (v:=?_) A8 kR kR kR A9 (Or.inl ⟨rF,?_⟩) Aa ?_
        rotate_left 1
        ·(intro wS hSw;(try dsimp only at hSw);go_simp;try(with_reducible rfl))
        try simp only[Act.put,List.setIfInBounds_toArray,List.set_cons_zero,List.set_cons_succ]
        clear hJ;refine AP 10 fun K hK=>?_;refine Ci rF _ _ _ _ rF _ _ _ rF rF (LK _ _ X Y _) (HNE.out _) ?_;exact QO
       .have HE:Hid (X=Y):=(show X=Y from of_decide_eq_true hD)
        clear hD;go_wp2;refine rG (fun v=>v.cell? ⟨w.heap.size,2,none⟩=some (.slice (some ⟨b,o,none⟩) N2 c2)/\v.cell? ⟨w.heap.size+1,2,none⟩=some (.slice (some ⟨b',o',none⟩) N2 d2)/\v.cell? ⟨b,o+j*5,none⟩=some (.int .i64 X.ty.kind)/\v.cell? ⟨b,o+j*5+1,none⟩=some (.int .i64 X.ty.par)/\v.cell? ⟨b,o+j*5+2,none⟩=some (.bool X.keep)/\v.cell? ⟨b,o+j*5+3,none⟩=some (.int .u32 X.bits)/\v.cell? ⟨b,o+j*5+4,none⟩=some (.int .i64 X.int_)/\v.cell? ⟨b',o'+j*5,none⟩=some (.int .i64 Y.ty.kind)/\v.cell? ⟨b',o'+j*5+1,none⟩=some (.int .i64 Y.ty.par)/\v.cell? ⟨b',o'+j*5+2,none⟩=some (.bool Y.keep)/\v.cell? ⟨b',o'+j*5+3,none⟩=some (.int .u32 Y.bits)/\v.cell? ⟨b',o'+j*5+4,none⟩=some (.int .i64 Y.int_)) fun hJ=>?_;refine wpAnyH_take (i:=0) (v:=?_) A8 kR kR kR A9 (Or.inl ⟨rF,?_⟩) Aa ?_
        rotate_left 1
        ·(intro wS hSw;(try dsimp only at hSw);go_simp;try(with_reducible rfl))
        try simp only[Act.put,List.setIfInBounds_toArray,List.set_cons_zero,List.set_cons_succ]
        refine wpAnyH_take (i:=1) (v:=?_) A8 kR kR kR A9 (Or.inl ⟨rF,?_⟩) Aa ?_
        rotate_left 1
        ·(intro wS hSw;(try dsimp only at hSw);go_simp;try(with_reducible rfl))
        try simp only[Act.put,List.setIfInBounds_toArray,List.set_cons_zero,List.set_cons_succ]
        refine wpAnyH_take (i:=2) (v:=?_) A8 kR kR kR A9 (Or.inl ⟨rF,?_⟩) Aa ?_
        rotate_left 1
        ·(intro wS hSw;(try dsimp only at hSw);go_simp;try(with_reducible rfl))
        try simp only[Act.put,List.setIfInBounds_toArray,List.set_cons_zero,List.set_cons_succ]
        refine wpAnyH_take (i:=3) (v:=?_) A8 kR kR kR A9 (Or.inl ⟨rF,?_⟩) Aa ?_
        rotate_left 1
        ·(intro wS hSw;(try dsimp only at hSw);go_simp;try(with_reducible rfl))
        try simp only[Act.put,List.setIfInBounds_toArray,List.set_cons_zero,List.set_cons_succ]
        refine wpAnyH_take (i:=4) (v:=?_) A8 kR kR kR A9 (Or.inl ⟨rF,?_⟩) Aa ?_
        rotate_left 1
        ·(intro wS hSw;(try dsimp only at hSw);go_simp;try(with_reducible rfl))
        try simp only[Act.put,List.setIfInBounds_toArray,List.set_cons_zero,List.set_cons_succ]
        refine wpAnyH_take (i:=5) (v:=?_) A8 kR kR kR A9 (Or.inl ⟨rF,?_⟩) Aa ?_
        rotate_left 1
        ·(intro wS hSw;(try dsimp only at hSw);go_simp;try(with_reducible rfl))
        try simp only[Act.put,List.setIfInBounds_toArray,List.set_cons_zero,List.set_cons_succ]
        refine wpAnyH_take (i:=6) (v:=?_) A8 kR kR kR A9 (Or.inl ⟨rF,?_⟩) Aa ?_
        rotate_left 1
        ·(intro wS hSw;(try dsimp only at hSw);go_simp;try(with_reducible rfl))
        try simp only[Act.put,List.setIfInBounds_toArray,List.set_cons_zero,List.set_cons_succ]
        refine wpAnyH_take (i:=7) (v:=?_) A8 kR kR kR A9 (Or.inl ⟨rF,?_⟩) Aa ?_
        rotate_left 1
        ·(intro wS hSw;(try dsimp only at hSw);go_simp;try(with_reducible rfl))
        try simp only[Act.put,List.setIfInBounds_toArray,List.set_cons_zero,List.set_cons_succ]
        refine wpAnyH_take (i:=8) (v:=?_) A8 kR kR kR A9 (Or.inl ⟨rF,?_⟩) Aa ?_
        rotate_left 1
        ·(intro wS hSw;(try dsimp only at hSw);go_simp;try(with_reducible rfl))
        try simp only[Act.put,List.setIfInBounds_toArray,List.set_cons_zero,List.set_cons_succ]
        refine wpAnyH_take (i:=9) (v:=?_) A8 kR kR kR A9 (Or.inl ⟨rF,?_⟩) Aa ?_
        rotate_left 1
        ·(intro wS hSw;(try dsimp only at hSw);go_simp;try(with_reducible rfl))
        try simp only[Act.put,List.setIfInBounds_toArray,List.set_cons_zero,List.set_cons_succ]
        clear hJ;refine AP 10 fun K hK=>?_;refine Ci rF _ _ _ _ rF _ _ _ rF rF (LK _ _ X Y _) (HNE.out _) ?_;exact QN
      .have hjN:j=N2:=oM;have HF2:Hid (l2=m2):=(HLE2.out (by rw[HN2.out,HM2.out])).2 fun i h1 h2=>hp.out i h1 h2 (by rw[hjN,<-HN2.out];exact h1);have HBW2:Hid (Below V.heap.size V wr):=hbv;subst hjN;clear hp hbv;go_wp2
       go_loopw [8] (fun iv wr=>Below V.heap.size V wr/\∃j:Nat,j<=N3/\iv=.int .i64 j/\Hid (∀i (h1:i<l3.length) (h2:i<m3.length),i<j->l3[i]=m3[i])) (fun iv _=>N3-(intOf iv).toNat)
       case atStart=>exact⟨HBW2.out,0,gI _,rfl,fun i _ _ hi=>absurd hi (Nat.not_lt_zero _)⟩
       case round=>
        obtain⟨hbv,j,hj,rfl,hp⟩:=hrel;obtain⟨⟨g0,g1,g2,g3⟩,g4,g5,g6,g7⟩:=HBV.out wr hbv;by_cases hlt:j<N3
        .have h1:j<l3.length:=by rw[HN3.out];exact hlt
         have h2:j<m3.length:=by rw[HM3.out];exact hlt
         obtain⟨b,o,rfl,hx⟩:=HV3.at h1;obtain⟨b',o',rfl,hy⟩:=HU3.at h2;have hx':=hx.below (bel HB0.out hbv);have hy':=hy.below (bel HB0.out hbv);have x0:=hx'.at 0 rfl;have w0:=hy'.at 0 rfl;have x1:=hx'.at 1 rfl;have w1:=hy'.at 1 rfl;have x2:=hx'.at 2 rfl;have w2:=hy'.at 2 rfl;have x3:=hx'.at 3 rfl;have w3:=hy'.at 3 rfl;have x4:=hx'.at 4 rfl;have w4:=hy'.at 4 rfl;have x5:=hx'.at 5 rfl;have w5:=hy'.at 5 rfl;have x6:=hx'.at 6 rfl;have w6:=hy'.at 6 rfl;rw[Nat.add_zero]at x0 w0;have NE:=O1 l3[j] m3[j];have NX:Hid (l3[j]=m3[j]->∀i (h1:i<l3.length) (h2:i<m3.length),i<j+1->l3[i]=m3[i]):=fun e i h1 h2 hi=>by
          exact QV
         have NB:Hid (¬l3[j]=m3[j]->R=false):=fun e=>by
          rw[<-HR.out];have:decide (l3=m3)=false:=decide_eq_false fun e2=>e ((HLE3.out (by rw[HN3.out,HM3.out])).1 e2 j h1 h2);rw[this];simp
         obtain⟨X,hX⟩:=gA (l3[j])
         obtain⟨Y,hY⟩:=gA (m3[j])
         rw[hX]at x0 x1 x2 x3 x4 x5 x6 NX NB;rw[hY]at w0 w1 w2 w3 w4 w5 w6 NX NB;simp only[hX,hY]at NE;obtain⟨D,hD⟩:=gA (decide (X=Y))
         simp only[hD]at NE;unfold Bn at NE;have HNE:Hid (∀w,(binOp .neq 70 (.agg #[.int .i64 X.op,.int .i64 X.d,.int .i64 X.a,.int .i64 X.b,.int .i64 X.c,.int .i64 X.n,.int .u32 X.bits]) (.agg #[.int .i64 Y.op,.int .i64 Y.d,.int .i64 Y.a,.int .i64 Y.b,.int .i64 Y.c,.int .i64 Y.n,.int .u32 Y.bits])).run prog w=.ok (.bool (!D)) w):=NE;have i1:(0:Int)<=(j:Int):=oM;have i2:(j:Int)<(N3:Int):=oM;clear NE hX hY hp hx hy hx' hy';cases D
         .have HB:Hid (¬X=Y):=(show¬X=Y from of_decide_eq_false hD)
          clear hD;go_wp2;refine rG (fun v=>v.cell? ⟨w.heap.size,3,none⟩=some (.slice (some ⟨b,o,none⟩) N3 c3)/\v.cell? ⟨w.heap.size+1,3,none⟩=some (.slice (some ⟨b',o',none⟩) N3 d3)/\v.cell? ⟨b,o+j*7,none⟩=some (.int .i64 X.op)/\v.cell? ⟨b,o+j*7+1,none⟩=some (.int .i64 X.d)/\v.cell? ⟨b,o+j*7+2,none⟩=some (.int .i64 X.a)/\v.cell? ⟨b,o+j*7+3,none⟩=some (.int .i64 X.b)/\v.cell? ⟨b,o+j*7+4,none⟩=some (.int .i64 X.c)/\v.cell? ⟨b,o+j*7+5,none⟩=some (.int .i64 X.n)/\v.cell? ⟨b,o+j*7+6,none⟩=some (.int .u32 X.bits)/\v.cell? ⟨b',o'+j*7,none⟩=some (.int .i64 Y.op)/\v.cell? ⟨b',o'+j*7+1,none⟩=some (.int .i64 Y.d)/\v.cell? ⟨b',o'+j*7+2,none⟩=some (.int .i64 Y.a)/\v.cell? ⟨b',o'+j*7+3,none⟩=some (.int .i64 Y.b)/\v.cell? ⟨b',o'+j*7+4,none⟩=some (.int .i64 Y.c)/\v.cell? ⟨b',o'+j*7+5,none⟩=some (.int .i64 Y.n)/\v.cell? ⟨b',o'+j*7+6,none⟩=some (.int .u32 Y.bits)) fun hJ=>?_;refine wpAnyH_take (i:=0) (v:=?_) A8 kR kR kR A9 (Or.inl ⟨rF,?_⟩) Aa ?_
          rotate_left 1
          ·(intro wS hSw;(try dsimp only at hSw);go_simp;try(with_reducible rfl))
          try simp only[Act.put,List.setIfInBounds_toArray,List.set_cons_zero,List.set_cons_succ]
          refine wpAnyH_take (i:=1) (v:=?_) A8 kR kR kR A9 (Or.inl ⟨rF,?_⟩) Aa ?_
          rotate_left 1
          ·(intro wS hSw;(try dsimp only at hSw);go_simp;try(with_reducible rfl))
          try simp only[Act.put,List.setIfInBounds_toArray,List.set_cons_zero,List.set_cons_succ]
          refine wpAnyH_take (i:=2) (v:=?_) A8 kR kR kR A9 (Or.inl ⟨rF,?_⟩) Aa ?_
          rotate_left 1
          ·(intro wS hSw;(try dsimp only at hSw);go_simp;try(with_reducible rfl))
          try simp only[Act.put,List.setIfInBounds_toArray,List.set_cons_zero,List.set_cons_succ]
          refine wpAnyH_take (i:=3) (v:=?_) A8 kR kR kR A9 (Or.inl ⟨rF,?_⟩) Aa ?_
          rotate_left 1
          ·(intro wS hSw;(try dsimp only at hSw);go_simp;try(with_reducible rfl))
          try simp only[Act.put,List.setIfInBounds_toArray,List.set_cons_zero,List.set_cons_succ]
          refine wpAnyH_take (i:=4) (v:=?_) A8 kR kR kR A9 (Or.inl ⟨rF,?_⟩) Aa ?_
          rotate_left 1
          ·(intro wS hSw;(try dsimp only at hSw);go_simp;try(with_reducible rfl))
          try simp only[Act.put,List.setIfInBounds_toArray,List.set_cons_zero,List.set_cons_succ]
          refine wpAnyH_take (i:=5) (v:=?_) A8 kR kR kR A9 (Or.inl ⟨rF,?_⟩) Aa ?_
          rotate_left 1
          ·(intro wS hSw;(try dsimp only at hSw);go_simp;try(with_reducible rfl))
          try simp only[Act.put,List.setIfInBounds_toArray,List.set_cons_zero,List.set_cons_succ]
          refine wpAnyH_take (i:=6) (v:=?_) A8 kR kR kR A9 (Or.inl ⟨rF,?_⟩) Aa ?_
          rotate_left 1
          ·(intro wS hSw;(try dsimp only at hSw);go_simp;try(with_reducible rfl))
          try simp only[Act.put,List.setIfInBounds_toArray,List.set_cons_zero,List.set_cons_succ]
          refine wpAnyH_take (i:=7) (v:=?_) A8 kR kR kR A9 (Or.inl ⟨rF,?_⟩) Aa ?_
          rotate_left 1
          ·(intro wS hSw;(try dsimp only at hSw);go_simp;try(with_reducible rfl))
          try simp only[Act.put,List.setIfInBounds_toArray,List.set_cons_zero,List.set_cons_succ]
          refine wpAnyH_take (i:=8) (v:=?_) A8 kR kR kR A9 (Or.inl ⟨rF,?_⟩) Aa ?_
          rotate_left 1
          ·(intro wS hSw;(try dsimp only at hSw);go_simp;try(with_reducible rfl))
          try simp only[Act.put,List.setIfInBounds_toArray,List.set_cons_zero,List.set_cons_succ]
          refine wpAnyH_take (i:=9) (v:=?_) A8 kR kR kR A9 (Or.inl ⟨rF,?_⟩) Aa ?_
          rotate_left 1
          ·(intro wS hSw;(try dsimp only at hSw);go_simp;try(with_reducible rfl))
          try simp only[Act.put,List.setIfInBounds_toArray,List.set_cons_zero,List.set_cons_succ]
          clear hJ;refine AP 10 fun K hK=>?_;refine Ci rF _ _ _ _ rF _ _ _ rF rF (Jd _ _ X Y _) (HNE.out _) ?_;exact QO
         .have HE:Hid (X=Y):=(show X=Y from of_decide_eq_true hD)
          clear hD;go_wp2;refine rG (fun v=>v.cell? ⟨w.heap.size,3,none⟩=some (.slice (some ⟨b,o,none⟩) N3 c3)/\v.cell? ⟨w.heap.size+1,3,none⟩=some (.slice (some ⟨b',o',none⟩) N3 d3)/\v.cell? ⟨b,o+j*7,none⟩=some (.int .i64 X.op)/\v.cell? ⟨b,o+j*7+1,none⟩=some (.int .i64 X.d)/\v.cell? ⟨b,o+j*7+2,none⟩=some (.int .i64 X.a)/\v.cell? ⟨b,o+j*7+3,none⟩=some (.int .i64 X.b)/\v.cell? ⟨b,o+j*7+4,none⟩=some (.int .i64 X.c)/\v.cell? ⟨b,o+j*7+5,none⟩=some (.int .i64 X.n)/\v.cell? ⟨b,o+j*7+6,none⟩=some (.int .u32 X.bits)/\v.cell? ⟨b',o'+j*7,none⟩=some (.int .i64 Y.op)/\v.cell? ⟨b',o'+j*7+1,none⟩=some (.int .i64 Y.d)/\v.cell? ⟨b',o'+j*7+2,none⟩=some (.int .i64 Y.a)/\v.cell? ⟨b',o'+j*7+3,none⟩=some (.int .i64 Y.b)/\v.cell? ⟨b',o'+j*7+4,none⟩=some (.int .i64 Y.c)/\v.cell? ⟨b',o'+j*7+5,none⟩=some (.int .i64 Y.n)/\v.cell? ⟨b',o'+j*7+6,none⟩=some (.int .u32 Y.bits)) fun hJ=>?_;refine wpAnyH_take (i:=0) (v:=?_) A8 kR kR kR A9 (Or.inl ⟨rF,?_⟩) Aa ?_
          rotate_left 1
          ·(intro wS hSw;(try dsimp only at hSw);go_simp;try(with_reducible rfl))
          try simp only[Act.put,List.setIfInBounds_toArray,List.set_cons_zero,List.set_cons_succ]
          refine wpAnyH_take (i:=1) (v:=?_) A8 kR kR kR A9 (Or.inl ⟨rF,?_⟩) Aa ?_
          rotate_left 1
          ·(intro wS hSw;(try dsimp only at hSw);go_simp;try(with_reducible rfl))
          try simp only[Act.put,List.setIfInBounds_toArray,List.set_cons_zero,List.set_cons_succ]
          refine wpAnyH_take (i:=2) (v:=?_) A8 kR kR kR A9 (Or.inl ⟨rF,?_⟩) Aa ?_
          rotate_left 1
          ·(intro wS hSw;(try dsimp only at hSw);go_simp;try(with_reducible rfl))
          try simp only[Act.put,List.setIfInBounds_toArray,List.set_cons_zero,List.set_cons_succ]
          refine wpAnyH_take (i:=3) (v:=?_) A8 kR kR kR A9 (Or.inl ⟨rF,?_⟩) Aa ?_
          rotate_left 1
          ·(intro wS hSw;(try dsimp only at hSw);go_simp;try(with_reducible rfl))
          try simp only[Act.put,List.setIfInBounds_toArray,List.set_cons_zero,List.set_cons_succ]
          refine wpAnyH_take (i:=4) (v:=?_) A8 kR kR kR A9 (Or.inl ⟨rF,?_⟩) Aa ?_
          rotate_left 1
          ·(intro wS hSw;(try dsimp only at hSw);go_simp;try(with_reducible rfl))
          try simp only[Act.put,List.setIfInBounds_toArray,List.set_cons_zero,List.set_cons_succ]
          refine wpAnyH_take (i:=5) (v:=?_) A8 kR kR kR A9 (Or.inl ⟨rF,?_⟩) Aa ?_
          rotate_left 1
          ·(intro wS hSw;(try dsimp only at hSw);go_simp;try(with_reducible rfl))
          try simp only[Act.put,List.setIfInBounds_toArray,List.set_cons_zero,List.set_cons_succ]
          refine wpAnyH_take (i:=6) (v:=?_) A8 kR kR kR A9 (Or.inl ⟨rF,?_⟩) Aa ?_
          rotate_left 1
          ·(intro wS hSw;(try dsimp only at hSw);go_simp;try(with_reducible rfl))
          try simp only[Act.put,List.setIfInBounds_toArray,List.set_cons_zero,List.set_cons_succ]
          refine wpAnyH_take (i:=7) (v:=?_) A8 kR kR kR A9 (Or.inl ⟨rF,?_⟩) Aa ?_
          rotate_left 1
          ·(intro wS hSw;(try dsimp only at hSw);go_simp;try(with_reducible rfl))
          try simp only[Act.put,List.setIfInBounds_toArray,List.set_cons_zero,List.set_cons_succ]
          refine wpAnyH_take (i:=8) (v:=?_) A8 kR kR kR A9 (Or.inl ⟨rF,?_⟩) Aa ?_
          rotate_left 1
          ·(intro wS hSw;(try dsimp only at hSw);go_simp;try(with_reducible rfl))
          try simp only[Act.put,List.setIfInBounds_toArray,List.set_cons_zero,List.set_cons_succ]
          refine wpAnyH_take (i:=9) (v:=?_) A8 kR kR kR A9 (Or.inl ⟨rF,?_⟩) Aa ?_
          rotate_left 1
          ·(intro wS hSw;(try dsimp only at hSw);go_simp;try(with_reducible rfl))
          try simp only[Act.put,List.setIfInBounds_toArray,List.set_cons_zero,List.set_cons_succ]
          clear hJ;refine AP 10 fun K hK=>?_;refine Ci rF _ _ _ _ rF _ _ _ rF rF (Jd _ _ X Y _) (HNE.out _) ?_;exact QN
        .have hjN:j=N3:=oM;have HF3:Hid (l3=m3):=(HLE3.out (by rw[HN3.out,HM3.out])).2 fun i h1 h2=>hp.out i h1 h2 (by rw[hjN,<-HN3.out];exact h1);have HBW3:Hid (Below V.heap.size V wr):=hbv;subst hjN;clear hp hbv;go_wp2;go_ret;exact⟨Ad (by rw[<-HR.out,HF0.out,HF1.out,HF2.out,HF3.out];simp),bel HB0.out HBW3.out⟩
structure BB(E RB:Nat)(s:ByteArray)(A:Nat)(w:World):Prop where
 b:w.rowIs RB 75 2 (fun k=>if k=0 then .string s else .int .i64 (A:Int))
 ge:E<=RB
theorem BB.c0{E RB:Nat}{s:ByteArray}{A:Nat}{w:World}(h:BB E RB s A w):w.cell? ⟨RB,0,none⟩=some (.string s):=h.b.cell (i:=0) dE
theorem BB.c1{E RB:Nat}{s:ByteArray}{A:Nat}{w:World}(h:BB E RB s A w):w.cell? ⟨RB,1,none⟩=some (.int .i64 (A:Int)):=h.b.cell (i:=1) dE
theorem BB.below{E RB:Nat}{s:ByteArray}{A:Nat}{w w':World}(h:BB E RB s A w)(k:Below w.heap.size w w'):BB E RB s A w':=⟨h.b.of_block (k.block _ h.b.lt),h.ge⟩
theorem BB.set{E RB:Nat}{s:ByteArray}{A:Nat}{w:World}(h:BB E RB s A w)(A':Nat):BB E RB s A' (w.setCell ⟨RB,1,none⟩ (.int .i64 (A':Int))):=⟨(h.b.set 1 _).congr fun j hj=>by
 rcases(show j=0\/j=1 by omega)with rfl|rfl<;>rfl,h.ge⟩
def B5(RB:Nat)(w w':World):Prop:=w.heap.size<=w'.heap.size/\∀b,b<w.heap.size->b≠RB->w'.heap[b]? =w.heap[b]?
theorem B5.refl(RB:Nat)(w:World):B5 RB w w:=⟨gF _,fun _ _ _=>rfl⟩
theorem B5.trans{RB:Nat}{w w' w'':World}(h:B5 RB w w')(k:B5 RB w' w''):B5 RB w w'':=⟨gH h.1 k.1,fun b h1 h2=>(k.2 b (Nat.lt_of_lt_of_le h1 h.1) h2).trans (h.2 b h1 h2)⟩
theorem B5.of{RB:Nat}{w w':World}(k:Below w.heap.size w w'):B5 RB w w':=⟨k.size,fun b h1 _=>k.block b h1⟩
theorem B5.set(RB:Nat)(w:World)(o:Nat)(v:Value):B5 RB w (w.setCell ⟨RB,o,none⟩ v):=⟨sM,fun b _ h=>gE h⟩
def B2(er:Int)(at_:Nat):Ending:=.panicked [{v:=.iface 72 (.agg #[.int .i64 er,.int .i64 (at_:Int)]),recovered:=false}]
theorem FN(E RB:Nat)(s:ByteArray)(A n:Nat)(w:World)(h:BB E RB s A w)(hA:A<=s.size)(hs:s.size<=281474976710656)(hn:n<=281474976710656)(hc:s.size<A+n):
 Calls prog 83 #[.pointer (some ⟨RB,0,none⟩),.int .i64 (n:Int)] w fun e w'=>e=B2 242 A/\Below w.heap.size w w':=by
 have c0:=h.c0;have c1:=h.c1;obtain⟨N,hN⟩:=gA (s.size)
 have wS:IntKind.i64.wrap ((N:Int)-(A:Int))=((N-A:Nat):Int):=by rw[IntKind.wrap_i64];omega
 have q1:((N-A:Nat):Int)<(n:Int):=oM;have HB:Hid (Below w.heap.size w w.drew):=(Below.refl _ _).drew;unfold B2;clear h;go_enter func83,ntmps83;go_upto_region 1 with fail;refine rG (fun v=>v.cell? ⟨RB,0,none⟩=some (.string s)/\v.cell? ⟨RB,1,none⟩=some (.int .i64 (A:Int))) fun hJ=>?_;refine wpAnyH_take (i:=0) (v:=?_) A8 kR kR kR A9 (Or.inl ⟨rF,?_⟩) Aa ?_
 rotate_left 1
 ·(intro wS hSw;(try dsimp only at hSw);go_simp;try(with_reducible rfl))
 try simp only[Act.put,List.setIfInBounds_toArray,List.set_cons_zero,List.set_cons_succ]
 refine wpAnyH_take (i:=1) (v:=?_) A8 kR kR kR A9 (Or.inl ⟨rF,?_⟩) Aa ?_
 rotate_left 1
 ·(intro wS hSw;(try dsimp only at hSw);go_simp;try(with_reducible rfl))
 try simp only[Act.put,List.setIfInBounds_toArray,List.set_cons_zero,List.set_cons_succ]
 refine wpAnyH_take (i:=2) (v:=?_) A8 kR kR kR A9 (Or.inl ⟨rF,?_⟩) Aa ?_
 rotate_left 1
 ·(intro wS hSw;(try dsimp only at hSw);go_simp;try(with_reducible rfl))
 try simp only[Act.put,List.setIfInBounds_toArray,List.set_cons_zero,List.set_cons_succ]
 refine wpAnyH_take (i:=3) (v:=?_) A8 kR kR kR A9 (Or.inl ⟨rF,?_⟩) Aa ?_
 rotate_left 1
 ·(intro wS hSw;(try dsimp only at hSw);go_simp;try(with_reducible rfl))
 try simp only[Act.put,List.setIfInBounds_toArray,List.set_cons_zero,List.set_cons_succ]
 refine wpAnyH_take (i:=4) (v:=?_) A8 kR kR kR A9 (Or.inl ⟨rF,?_⟩) Aa ?_
 rotate_left 1
 ·(intro wS hSw;(try dsimp only at hSw);go_simp;try(with_reducible rfl))
 try simp only[Act.put,List.setIfInBounds_toArray,List.set_cons_zero,List.set_cons_succ]
 refine wpAnyH_take (i:=5) (v:=?_) A8 kR kR kR A9 (Or.inl ⟨rF,?_⟩) Aa ?_
 rotate_left 1
 ·(intro wS hSw;(try dsimp only at hSw);go_simp;try(with_reducible rfl))
 try simp only[Act.put,List.setIfInBounds_toArray,List.set_cons_zero,List.set_cons_succ]
 refine wpAnyH_take (i:=6) (v:=?_) A8 kR kR kR A9 (Or.inl ⟨rF,?_⟩) Aa ?_
 rotate_left 1
 ·(intro wS hSw;(try dsimp only at hSw);go_simp;try(with_reducible rfl))
 try simp only[Act.put,List.setIfInBounds_toArray,List.set_cons_zero,List.set_cons_succ]
 refine wpAnyH_take (i:=7) (v:=?_) A8 kR kR kR A9 (Or.inl ⟨rF,?_⟩) Aa ?_
 rotate_left 1
 ·(intro wS hSw;(try dsimp only at hSw);go_simp;try(with_reducible rfl))
 try simp only[Act.put,List.setIfInBounds_toArray,List.set_cons_zero,List.set_cons_succ]
 refine wpAnyH_take (i:=8) (v:=?_) A8 kR kR kR A9 (Or.inl ⟨rF,?_⟩) Aa ?_
 rotate_left 1
 ·(intro wS hSw;(try dsimp only at hSw);go_simp;try(with_reducible rfl))
 try simp only[Act.put,List.setIfInBounds_toArray,List.set_cons_zero,List.set_cons_succ]
 refine wpAnyH_take (i:=9) (v:=?_) A8 kR kR kR A9 (Or.inl ⟨rF,?_⟩) Aa ?_
 rotate_left 1
 ·(intro wS hSw;(try dsimp only at hSw);go_simp;try(with_reducible rfl))
 try simp only[Act.put,List.setIfInBounds_toArray,List.set_cons_zero,List.set_cons_succ]
 refine wpAnyH_take (i:=10) (v:=?_) A8 kR kR kR A9 (Or.inl ⟨rF,?_⟩) Aa ?_
 rotate_left 1
 ·(intro wS hSw;(try dsimp only at hSw);go_simp;try(with_reducible rfl))
 try simp only[Act.put,List.setIfInBounds_toArray,List.set_cons_zero,List.set_cons_succ]
 refine wpAnyH_take (i:=11) (v:=?_) A8 kR kR kR A9 (Or.inl ⟨rF,?_⟩) Aa ?_
 rotate_left 1
 ·(intro wS hSw;(try dsimp only at hSw);go_simp;try(with_reducible rfl))
 try simp only[Act.put,List.setIfInBounds_toArray,List.set_cons_zero,List.set_cons_succ]
 refine wpAnyH_done kR ?_ _;go_wp2;exact⟨rfl,rfl,HB.out⟩
theorem GO(E RB:Nat)(s:ByteArray)(A n:Nat)(w:World)(h:BB E RB s A w)(hs:s.size<=281474976710656)(hc:A+n<=s.size)(hE:E<=w.heap.size):
 Calls prog 83 #[.pointer (some ⟨RB,0,none⟩),.int .i64 (n:Int)] w fun e w'=>e=.returned (.string (s.extract A (A+n)))/\Below E w w'/\BB E RB s (A+n) w'/\B5 RB w w':=by
 have c0:=h.c0;have c1:=h.c1;obtain⟨N,hN⟩:=gA (s.size)
 have wS:IntKind.i64.wrap ((N:Int)-(A:Int))=((N-A:Nat):Int):=by rw[IntKind.wrap_i64];omega
 have q1:¬ ((N-A:Nat):Int)<(n:Int):=oM;have wA:IntKind.i64.wrap ((A:Int)+(n:Int))=((A+n:Nat):Int):=by rw[IntKind.wrap_i64];omega
 have hd:Below w.heap.size w w.drew:=(Below.refl _ _).drew;have HM:Hid (BB E RB s A w.drew):=h.below hd;obtain⟨P,hP⟩:=gA (A+n)
 have wB:IntKind.i64.wrap ((P:Int)-(n:Int))=(A:Int):=by rw[IntKind.wrap_i64];omega
 have i1:(0:Int)<=(A:Int):=oM;have i2:(A:Int)<=(P:Int):=oM;have i3:(P:Int)<=(N:Int):=oM;have i4:(0:Int)<=(P:Int):=oM;have i5:A<=P:=oM;have i6:P<=N:=oM;rw[hP]at wA |-;have d1:=HM.c1;have fz:w.drew.frozen? ⟨RB,1,none⟩=false:=HM.b.frozen 1;obtain⟨W,hW⟩:=gA (w.drew.setCell ⟨RB,1,none⟩ (.int .i64 (P:Int)))
 have hm2:BB E RB s P W:=by rw[<-hW];exact HM.set P
 have ho2:B5 RB w W:=by rw[<-hW];exact(B5.of hd).trans (B5.set _ _ _ _)
 have hb2:Below E w W:=by rw[<-hW];exact(hd.mono hE).setCell h.ge _
 have x0:=hm2.c0;have x1:=hm2.c1;have hd2:Below W.heap.size W W.drew:=(Below.refl _ _).drew;have HR:Hid (Below E w W.drew/\BB E RB s P W.drew/\B5 RB w W.drew):=⟨hb2.drew,hm2.below hd2,ho2.trans (B5.of hd2)⟩
 have HW:=A6 hW;clear h hd hd2 HM hm2 ho2 hb2 hW hP;go_enter func83,ntmps83;go_upto_region 1 with fail;refine rG (fun v=>v.cell? ⟨RB,0,none⟩=some (.string s)/\v.cell? ⟨RB,1,none⟩=some (.int .i64 (A:Int))) fun hJ=>?_;refine wpAnyH_take (i:=0) (v:=?_) A8 kR kR kR A9 (Or.inl ⟨rF,?_⟩) Aa ?_
 rotate_left 1
 ·(intro wS hSw;(try dsimp only at hSw);go_simp;try(with_reducible rfl))
 try simp only[Act.put,List.setIfInBounds_toArray,List.set_cons_zero,List.set_cons_succ]
 refine wpAnyH_take (i:=1) (v:=?_) A8 kR kR kR A9 (Or.inl ⟨rF,?_⟩) Aa ?_
 rotate_left 1
 ·(intro wS hSw;(try dsimp only at hSw);go_simp;try(with_reducible rfl))
 try simp only[Act.put,List.setIfInBounds_toArray,List.set_cons_zero,List.set_cons_succ]
 refine wpAnyH_take (i:=2) (v:=?_) A8 kR kR kR A9 (Or.inl ⟨rF,?_⟩) Aa ?_
 rotate_left 1
 ·(intro wS hSw;(try dsimp only at hSw);go_simp;try(with_reducible rfl))
 try simp only[Act.put,List.setIfInBounds_toArray,List.set_cons_zero,List.set_cons_succ]
 refine wpAnyH_take (i:=3) (v:=?_) A8 kR kR kR A9 (Or.inl ⟨rF,?_⟩) Aa ?_
 rotate_left 1
 ·(intro wS hSw;(try dsimp only at hSw);go_simp;try(with_reducible rfl))
 try simp only[Act.put,List.setIfInBounds_toArray,List.set_cons_zero,List.set_cons_succ]
 refine wpAnyH_take (i:=4) (v:=?_) A8 kR kR kR A9 (Or.inl ⟨rF,?_⟩) Aa ?_
 rotate_left 1
 ·(intro wS hSw;(try dsimp only at hSw);go_simp;try(with_reducible rfl))
 try simp only[Act.put,List.setIfInBounds_toArray,List.set_cons_zero,List.set_cons_succ]
 refine wpAnyH_take (i:=5) (v:=?_) A8 kR kR kR A9 (Or.inl ⟨rF,?_⟩) Aa ?_
 rotate_left 1
 ·(intro wS hSw;(try dsimp only at hSw);go_simp;try(with_reducible rfl))
 try simp only[Act.put,List.setIfInBounds_toArray,List.set_cons_zero,List.set_cons_succ]
 refine wpAnyH_take (i:=6) (v:=?_) A8 kR kR kR A9 (Or.inl ⟨rF,?_⟩) Aa ?_
 rotate_left 1
 ·(intro wS hSw;(try dsimp only at hSw);go_simp;try(with_reducible rfl))
 try simp only[Act.put,List.setIfInBounds_toArray,List.set_cons_zero,List.set_cons_succ]
 refine wpAnyH_take (i:=7) (v:=?_) A8 kR kR kR A9 (Or.inl ⟨rF,?_⟩) Aa ?_
 rotate_left 1
 ·(intro wS hSw;(try dsimp only at hSw);go_simp;try(with_reducible rfl))
 try simp only[Act.put,List.setIfInBounds_toArray,List.set_cons_zero,List.set_cons_succ]
 refine wpAnyH_take (i:=8) (v:=?_) A8 kR kR kR A9 (Or.inl ⟨rF,?_⟩) Aa ?_
 rotate_left 1
 ·(intro wS hSw;(try dsimp only at hSw);go_simp;try(with_reducible rfl))
 try simp only[Act.put,List.setIfInBounds_toArray,List.set_cons_zero,List.set_cons_succ]
 refine wpAnyH_take (i:=9) (v:=?_) A8 kR kR kR A9 (Or.inl ⟨rF,?_⟩) Aa ?_
 rotate_left 1
 ·(intro wS hSw;(try dsimp only at hSw);go_simp;try(with_reducible rfl))
 try simp only[Act.put,List.setIfInBounds_toArray,List.set_cons_zero,List.set_cons_succ]
 refine wpAnyH_take (i:=10) (v:=?_) A8 kR kR kR A9 (Or.inl ⟨rF,?_⟩) Aa ?_
 rotate_left 1
 ·(intro wS hSw;(try dsimp only at hSw);go_simp;try(with_reducible rfl))
 try simp only[Act.put,List.setIfInBounds_toArray,List.set_cons_zero,List.set_cons_succ]
 refine wpAnyH_take (i:=11) (v:=?_) A8 kR kR kR A9 (Or.inl ⟨rF,?_⟩) Aa ?_
 rotate_left 1
 ·(intro wS hSw;(try dsimp only at hSw);go_simp;try(with_reducible rfl))
 try simp only[Act.put,List.setIfInBounds_toArray,List.set_cons_zero,List.set_cons_succ]
 refine wpAnyH_done kR ?_ _;go_upto_region 4 with fail;rw[<-World.setCell_drew,HW.out];clear c0 c1 d1 fz HW;refine rG (fun v=>v.cell? ⟨RB,0,none⟩=some (.string s)/\v.cell? ⟨RB,1,none⟩=some (.int .i64 (P:Int))) fun hJ=>?_;refine wpAnyH_take (i:=0) (v:=?_) A8 kR kR kR A9 (Or.inl ⟨rF,?_⟩) Aa ?_
 rotate_left 1
 ·(intro wS hSw;(try dsimp only at hSw);go_simp;try(with_reducible rfl))
 try simp only[Act.put,List.setIfInBounds_toArray,List.set_cons_zero,List.set_cons_succ]
 refine wpAnyH_take (i:=1) (v:=?_) A8 kR kR kR A9 (Or.inl ⟨rF,?_⟩) Aa ?_
 rotate_left 1
 ·(intro wS hSw;(try dsimp only at hSw);go_simp;try(with_reducible rfl))
 try simp only[Act.put,List.setIfInBounds_toArray,List.set_cons_zero,List.set_cons_succ]
 refine wpAnyH_take (i:=2) (v:=?_) A8 kR kR kR A9 (Or.inl ⟨rF,?_⟩) Aa ?_
 rotate_left 1
 ·(intro wS hSw;(try dsimp only at hSw);go_simp;try(with_reducible rfl))
 try simp only[Act.put,List.setIfInBounds_toArray,List.set_cons_zero,List.set_cons_succ]
 refine wpAnyH_take (i:=3) (v:=?_) A8 kR kR kR A9 (Or.inl ⟨rF,?_⟩) Aa ?_
 rotate_left 1
 ·(intro wS hSw;(try dsimp only at hSw);go_simp;try(with_reducible rfl))
 try simp only[Act.put,List.setIfInBounds_toArray,List.set_cons_zero,List.set_cons_succ]
 refine wpAnyH_take (i:=4) (v:=?_) A8 kR kR kR A9 (Or.inl ⟨rF,?_⟩) Aa ?_
 rotate_left 1
 ·(intro wS hSw;(try dsimp only at hSw);go_simp;try(with_reducible rfl))
 try simp only[Act.put,List.setIfInBounds_toArray,List.set_cons_zero,List.set_cons_succ]
 refine wpAnyH_take (i:=5) (v:=?_) A8 kR kR kR A9 (Or.inl ⟨rF,?_⟩) Aa ?_
 rotate_left 1
 ·(intro wS hSw;(try dsimp only at hSw);go_simp;try(with_reducible rfl))
 try simp only[Act.put,List.setIfInBounds_toArray,List.set_cons_zero,List.set_cons_succ]
 refine wpAnyH_take (i:=6) (v:=?_) A8 kR kR kR A9 (Or.inl ⟨rF,?_⟩) Aa ?_
 rotate_left 1
 ·(intro wS hSw;(try dsimp only at hSw);go_simp;try(with_reducible rfl))
 try simp only[Act.put,List.setIfInBounds_toArray,List.set_cons_zero,List.set_cons_succ]
 refine wpAnyH_take (i:=7) (v:=?_) A8 kR kR kR A9 (Or.inl ⟨rF,?_⟩) Aa ?_
 rotate_left 1
 ·(intro wS hSw;(try dsimp only at hSw);go_simp;try(with_reducible rfl))
 try simp only[Act.put,List.setIfInBounds_toArray,List.set_cons_zero,List.set_cons_succ]
 refine wpAnyH_take (i:=8) (v:=?_) A8 kR kR kR A9 (Or.inl ⟨rF,?_⟩) Aa ?_
 rotate_left 1
 ·(intro wS hSw;(try dsimp only at hSw);go_simp;try(with_reducible rfl))
 try simp only[Act.put,List.setIfInBounds_toArray,List.set_cons_zero,List.set_cons_succ]
 refine wpAnyH_take (i:=9) (v:=?_) A8 kR kR kR A9 (Or.inl ⟨rF,?_⟩) Aa ?_
 rotate_left 1
 ·(intro wS hSw;(try dsimp only at hSw);go_simp;try(with_reducible rfl))
 try simp only[Act.put,List.setIfInBounds_toArray,List.set_cons_zero,List.set_cons_succ]
 refine wpAnyH_take (i:=10) (v:=?_) A8 kR kR kR A9 (Or.inl ⟨rF,?_⟩) Aa ?_
 rotate_left 1
 ·(intro wS hSw;(try dsimp only at hSw);go_simp;try(with_reducible rfl))
 try simp only[Act.put,List.setIfInBounds_toArray,List.set_cons_zero,List.set_cons_succ]
 refine wpAnyH_take (i:=11) (v:=?_) A8 kR kR kR A9 (Or.inl ⟨rF,?_⟩) Aa ?_
 rotate_left 1
 ·(intro wS hSw;(try dsimp only at hSw);go_simp;try(with_reducible rfl))
 try simp only[Act.put,List.setIfInBounds_toArray,List.set_cons_zero,List.set_cons_succ]
 refine wpAnyH_take (i:=12) (v:=?_) A8 kR kR kR A9 (Or.inl ⟨rF,?_⟩) Aa ?_
 rotate_left 1
 ·(intro wS hSw;(try dsimp only at hSw);go_simp;try(with_reducible rfl))
 try simp only[Act.put,List.setIfInBounds_toArray,List.set_cons_zero,List.set_cons_succ]
 refine wpAnyH_take (i:=13) (v:=?_) A8 kR kR kR A9 (Or.inl ⟨rF,?_⟩) Aa ?_
 rotate_left 1
 ·(intro wS hSw;(try dsimp only at hSw);go_simp;try(with_reducible rfl))
 try simp only[Act.put,List.setIfInBounds_toArray,List.set_cons_zero,List.set_cons_succ]
 refine wpAnyH_take (i:=14) (v:=?_) A8 kR kR kR A9 (Or.inl ⟨rF,?_⟩) Aa ?_
 rotate_left 1
 ·(intro wS hSw;(try dsimp only at hSw);go_simp;try(with_reducible rfl))
 try simp only[Act.put,List.setIfInBounds_toArray,List.set_cons_zero,List.set_cons_succ]
 refine wpAnyH_take (i:=15) (v:=?_) A8 kR kR kR A9 (Or.inl ⟨rF,?_⟩) Aa ?_
 rotate_left 1
 ·(intro wS hSw;(try dsimp only at hSw);go_simp;try(with_reducible rfl))
 try simp only[Act.put,List.setIfInBounds_toArray,List.set_cons_zero,List.set_cons_succ]
 refine wpAnyH_done kR ?_ _;go_wp2;refine bodyPost_ret (by simp[results,results83,go_sem, *];try rfl) rfl ?_;exact⟨rfl,HR.out⟩
theorem Gt{s:Sl}(h:Hl s):(Dr s).length<=20:=by
 have h1:=Ei h.1;obtain⟨-,h3,h4,-⟩:=h;have h2:=AU (n:=s.int_.toNat) oM;have h5:(if s.ty.kind=2 then Az s.int_.toNat else B0 4 s.bits.toNat).length<=9:=by
  split
  .exact h2
  .rw[AZ];omega
 unfold Dr;rw[List.length_append,List.length_append,List.length_singleton];omega
theorem Bw{α:Type}{e:α->List Nat}{m:Nat}:∀ (l:List α),(∀x∈l,(e x).length<=m)->(l.flatMap e).length<=m*l.length
 |[],_=>by simp
 |a::l,h=>by
  rw[List.flatMap_cons,List.length_append,List.length_cons,Nat.mul_succ];have h1:=h a sM;have h2:=Bw l (fun x hx=>h x (List.mem_cons_of_mem _ hx));omega
theorem CO{α:Type}(e:α->List Nat){l:List α}{k:Nat}(h:k<l.length):(l.take (k+1)).flatMap e=(l.take k).flatMap e++e l[k]:=by
 rw[List.take_succ_eq_append_getElem h,List.flatMap_append];simp
theorem IY(E WB:Nat)(l:List Nat)(v:Value)(w:World)(h:Bm E WB l v w)(rs:List Ty)(hrs:∀x∈rs,G0 x)(hn:rs.length<=16384)(p:Option Addr)(q:Nat)(hr:∀u,Below E w u->Bl 2 Ed u (.slice p rs.length q) rs)(hl:l.length+1000000<=100000000):
 Calls prog 42 #[.pointer (some ⟨WB,0,none⟩),.slice p rs.length q,.func (.func 43) #[.pointer (some ⟨WB,0,none⟩)] #[]] w fun e w'=>e=.returned (.tuple #[])/\Below E w w'/\∃v',Bm E WB (l++B7 Dw rs) v' w'/\Bh WB v w v' w':=by
 obtain⟨N,hN⟩:=gA (rs.length)
 have hnl:=AU (n:=N) oM;have HLN:Hid (∀k,((l++Az N)++(rs.take k).flatMap Dw).length+100<=100000000):=fun k=>by
  have h1:=Bw (e:=Dw) (m:=10) (rs.take k) (fun x hx=>Ei (hrs x (List.mem_of_mem_take hx)));rw[List.length_take]at h1;rw[List.length_append,List.length_append];have h2:min k rs.length<=16384:=oM;omega
 have HFM:=A6 (fun(k:Nat) (hk:k<rs.length)=>CO Dw hk);have HEL:Hid (B7 Dw rs=Az N++rs.flatMap Dw):=by show B7 Dw rs=_;unfold B7;rw[hN]
 have KW:=A6 (fun(m:List Nat) (v:Value) (u:World) (a:Bm E WB m v u) (x:Ty) (hx:G0 x) (b:m.length+100<=100000000)=>FP E WB m v u a x hx oM);have KN:=A6 (Bx E WB l v w h N oM oM);have HRW:Hid (∀u,Below E w u->Bl 2 Ed u (.slice p N q) rs):=fun u hu=>by rw[<-hN];exact hr u hu
 have HOK:=A6 hrs;have HN:=A6 hN;rw[hN]at hn |-;clear hr hrs h hN;go_enter func42,ntmps42;go_upto_block 0 with(go_at_call 79;(with_reducible refine KN.out.mono ?_);rintro e9 w4 ⟨rfl,hb4,v4,hm4,ho4⟩;have HJ0:Hid (Below E w w4/\∃v',Bm E WB ((l++Az N)++(rs.take 0).flatMap Dw) v' w4/\Bh WB v w v' w4):=⟨hb4,v4,R1,ho4⟩;clear hb4 hm4 ho4)
 go_wp2_with fail
 go_loopw [14] (fun iv wx=>∃k:Nat,k<=N/\iv=.int .i64 (k:Int)/\Hid (Below E w wx/\∃v',Bm E WB ((l++Az N)++(rs.take k).flatMap Dw) v' wx/\Bh WB v w v' wx)) (fun iv _=>N-(intOf iv).toNat)
 case atStart=>exact⟨0,gI _,rfl,HJ0.out⟩
 case round=>
  clear HJ0;obtain⟨k,hk,rfl,HJ⟩:=hrel;by_cases hlt:k<N
  .have hkl:k<rs.length:=by have:=HN.out;omega
   obtain⟨hb,v2,hm,ho⟩:=HJ.out;obtain⟨rb,ro,rfl,hcl⟩:=(HRW.out wr hb).at hkl;have hx:=HOK.out rs[k] (gD hkl);have hfm:=HFM.out k hkl;obtain⟨x,hxe⟩:=gA (rs[k])
   rw[hxe]at hcl hx hfm;obtain⟨V,hV⟩:=gA (wr.alloc (.cells #[.int .i64 (x.kind),.int .i64 (x.par)] 62))
   have hbV:Below wr.heap.size wr V:=by rw[<-hV];exact A7 _ _
   have y0:=hcl.at 0 (v:=.int .i64 (x.kind)) rfl;rw[Nat.add_zero]at y0;have y1:=hcl.at 1 (v:=.int .i64 (x.par)) rfl;have z0:V.cell? ⟨wr.heap.size,0,none⟩=some (.int .i64 (x.kind)):=by rw[<-hV];simp[go_sem]
   have z1:V.cell? ⟨wr.heap.size,1,none⟩=some (.int .i64 (x.par)):=by rw[<-hV];simp[go_sem]
   have llb:rb<wr.heap.size:=Al y0;have n9:¬rb=wr.heap.size:=oM;have KX:=A6 (KW.out _ v2 V (hm.below hbV) x hx (HLN.out k));have HFM':=A6 hfm;have HBV:Hid (Below E w V):=hb.trans (hbV.mono hm.le);have HOV:Hid (∀v' w',Bh WB v2 V v' w'->Bh WB v w v' w'):=fun v' w' z=>ho.trans (Bh.below hm hbV z);have i1:(0:Int)<=(k:Int):=oM;have i2:(k:Int)<(N:Int):=oM;have wi:IntKind.i64.wrap ((k:Int)+1)=((k+1:Nat):Int):=by rw[IntKind.wrap_i64];omega
   clear hb hm ho hcl hx hfm hxe hbV llb HJ;go_wp2_with(go_at_call 43;(with_reducible refine KX.out.mono ?_);rintro e9 w5 ⟨rfl,hb5,v5,hm5,ho5⟩;have HQ:Hid (Below E w w5/\∃v',Bm E WB ((l++Az N)++(rs.take (k+1)).flatMap Dw) v' w5/\Bh WB v w v' w5):=⟨HBV.out.trans hb5,v5,R7,HOV.out _ _ ho5⟩;clear hb5 hm5 ho5);exact Qb
  .have e1:¬ (k:Int)<(N:Int):=oM;have hall:rs.take k=rs:=List.take_of_length_le Q0;have HQ:Hid (Below E w wr/\∃v',Bm E WB (l++B7 Dw rs) v' wr/\Bh WB v w v' wr):=by
    exact QT
   exact QJ
theorem IX(E WB:Nat)(l:List Nat)(v:Value)(w:World)(h:Bm E WB l v w)(rs:List Sl)(hrs:∀x∈rs,Hl x)(hn:rs.length<=4096)(p:Option Addr)(q:Nat)(hr:∀u,Below E w u->Bl 5 EP u (.slice p rs.length q) rs)(hl:l.length+1000000<=100000000):
 Calls prog 44 #[.pointer (some ⟨WB,0,none⟩),.slice p rs.length q,.func (.func 45) #[.pointer (some ⟨WB,0,none⟩)] #[]] w fun e w'=>e=.returned (.tuple #[])/\Below E w w'/\∃v',Bm E WB (l++B7 Dr rs) v' w'/\Bh WB v w v' w':=by
 obtain⟨N,hN⟩:=gA (rs.length)
 have hnl:=AU (n:=N) oM;have HLN:Hid (∀k,((l++Az N)++(rs.take k).flatMap Dr).length+100<=100000000):=fun k=>by
  have h1:=Bw (e:=Dr) (m:=20) (rs.take k) (fun x hx=>Gt (hrs x (List.mem_of_mem_take hx)));rw[List.length_take]at h1;rw[List.length_append,List.length_append];have h2:min k rs.length<=4096:=oM;omega
 have HFM:=A6 (fun(k:Nat) (hk:k<rs.length)=>CO Dr hk);have HEL:Hid (B7 Dr rs=Az N++rs.flatMap Dr):=by show B7 Dr rs=_;unfold B7;rw[hN]
 have KW:=A6 (fun(m:List Nat) (v:Value) (u:World) (a:Bm E WB m v u) (x:Sl) (hx:Hl x) (b:m.length+100<=100000000)=>Lq E WB m v u a x hx oM);have KN:=A6 (Bx E WB l v w h N oM oM);have HRW:Hid (∀u,Below E w u->Bl 5 EP u (.slice p N q) rs):=fun u hu=>by rw[<-hN];exact hr u hu
 have HOK:=A6 hrs;have HN:=A6 hN;rw[hN]at hn |-;clear hr hrs h hN;go_enter func44,ntmps44;go_upto_block 0 with(go_at_call 79;(with_reducible refine KN.out.mono ?_);rintro e9 w4 ⟨rfl,hb4,v4,hm4,ho4⟩;have HJ0:Hid (Below E w w4/\∃v',Bm E WB ((l++Az N)++(rs.take 0).flatMap Dr) v' w4/\Bh WB v w v' w4):=⟨hb4,v4,R1,ho4⟩;clear hb4 hm4 ho4)
 go_wp2_with fail
 go_loopw [14] (fun iv wx=>∃k:Nat,k<=N/\iv=.int .i64 (k:Int)/\Hid (Below E w wx/\∃v',Bm E WB ((l++Az N)++(rs.take k).flatMap Dr) v' wx/\Bh WB v w v' wx)) (fun iv _=>N-(intOf iv).toNat)
 case atStart=>exact⟨0,gI _,rfl,HJ0.out⟩
 case round=>
  clear HJ0;obtain⟨k,hk,rfl,HJ⟩:=hrel;by_cases hlt:k<N
  .have hkl:k<rs.length:=by have:=HN.out;omega
   obtain⟨hb,v2,hm,ho⟩:=HJ.out;obtain⟨rb,ro,rfl,hcl⟩:=(HRW.out wr hb).at hkl;have hx:=HOK.out rs[k] (gD hkl);have hfm:=HFM.out k hkl;obtain⟨x,hxe⟩:=gA (rs[k])
   rw[hxe]at hcl hx hfm;obtain⟨V,hV⟩:=gA (wr.alloc (.cells #[.int .i64 (x.ty.kind),.int .i64 (x.ty.par),.bool (x.keep),.int .u32 (x.bits),.int .i64 (x.int_)] 66))
   have hbV:Below wr.heap.size wr V:=by rw[<-hV];exact A7 _ _
   have y0:=hcl.at 0 (v:=.int .i64 (x.ty.kind)) rfl;rw[Nat.add_zero]at y0;have y1:=hcl.at 1 (v:=.int .i64 (x.ty.par)) rfl;have y2:=hcl.at 2 (v:=.bool (x.keep)) rfl;have y3:=hcl.at 3 (v:=.int .u32 (x.bits)) rfl;have y4:=hcl.at 4 (v:=.int .i64 (x.int_)) rfl;have z0:V.cell? ⟨wr.heap.size,0,none⟩=some (.int .i64 (x.ty.kind)):=by rw[<-hV];simp[go_sem]
   have z1:V.cell? ⟨wr.heap.size,1,none⟩=some (.int .i64 (x.ty.par)):=by rw[<-hV];simp[go_sem]
   have z2:V.cell? ⟨wr.heap.size,2,none⟩=some (.bool (x.keep)):=by rw[<-hV];simp[go_sem]
   have z3:V.cell? ⟨wr.heap.size,3,none⟩=some (.int .u32 (x.bits)):=by rw[<-hV];simp[go_sem]
   have z4:V.cell? ⟨wr.heap.size,4,none⟩=some (.int .i64 (x.int_)):=by rw[<-hV];simp[go_sem]
   have llb:rb<wr.heap.size:=Al y0;have n9:¬rb=wr.heap.size:=oM;have KX:=A6 (KW.out _ v2 V (hm.below hbV) x hx (HLN.out k));have HFM':=A6 hfm;have HBV:Hid (Below E w V):=hb.trans (hbV.mono hm.le);have HOV:Hid (∀v' w',Bh WB v2 V v' w'->Bh WB v w v' w'):=fun v' w' z=>ho.trans (Bh.below hm hbV z);have i1:(0:Int)<=(k:Int):=oM;have i2:(k:Int)<(N:Int):=oM;have wi:IntKind.i64.wrap ((k:Int)+1)=((k+1:Nat):Int):=by rw[IntKind.wrap_i64];omega
   clear hb hm ho hcl hx hfm hxe hbV llb HJ;go_wp2_with(go_at_call 45;(with_reducible refine KX.out.mono ?_);rintro e9 w5 ⟨rfl,hb5,v5,hm5,ho5⟩;have HQ:Hid (Below E w w5/\∃v',Bm E WB ((l++Az N)++(rs.take (k+1)).flatMap Dr) v' w5/\Bh WB v w v' w5):=⟨HBV.out.trans hb5,v5,R7,HOV.out _ _ ho5⟩;clear hb5 hm5 ho5);exact Qb
  .have e1:¬ (k:Int)<(N:Int):=oM;have hall:rs.take k=rs:=List.take_of_length_le Q0;have HQ:Hid (Below E w wr/\∃v',Bm E WB (l++B7 Dr rs) v' wr/\Bh WB v w v' wr):=by
    exact QT
   exact QJ
def AX{α:Type}(E RB:Nat)(s:ByteArray)(w:World)(val:α->Value)(q:Except (Int×Nat) (α×List Nat×Nat))(e:Ending)(w':World):Prop:=
 match q with
 | .error (er,at_)=>e=B2 er at_/\Below E w w'/\B5 RB w w'
 | .ok (x,l',A')=>e=.returned (val x)/\Below E w w'/\B5 RB w w'/\BB E RB s A' w'/\A'<=s.size/\l'=(Ab s).drop A'
theorem EF{s:ByteArray}{A:Nat}(h:s.size<=A):(Ab s).drop A=[]:=List.drop_eq_nil_of_le (by rw[Ah];exact h)
theorem Dv{s:ByteArray}{A:Nat}(h:A<s.size):(Ab s).drop A=s[A].toNat::(Ab s).drop (A+1):=by
 have h1:A<(Ab s).length:=by rw[Ah];exact h
 rw[List.drop_eq_getElem_cons h1];congr 1;simp[Ab];rfl
theorem J5{s:ByteArray}{A:Nat}(h:A<s.size):∃t:ByteArray,s.extract A (A+1)=t/\∃ (ht:t.size=1),t[0].toNat=s[A].toNat:=by
 refine⟨_,rfl,?_,?_⟩
 .simp;omega
 .simp[ByteArray.getElem_extract]
theorem DT(E RB:Nat)(s:ByteArray)(A lo hi:Nat)(w:World)(h:BB E RB s A w)(hA:A<=s.size)(hs:s.size<=281474976710656)(hE:E<=w.heap.size):
 Calls prog 85 #[.pointer (some ⟨RB,0,none⟩),.int .i64 (lo:Int),.int .i64 (hi:Int)] w (AX E RB s w (fun(b:Nat)=>.int .i64 (b:Int)) (AO lo hi ((Ab s).drop A) A)):=by
 have c1:=h.c1;by_cases hlt:A<s.size
 .rw[Dv hlt];obtain⟨t,hte,ht,hb⟩:=J5 hlt;have KT:Calls prog 83 #[.pointer (some ⟨RB,0,none⟩),.int .i64 1] w fun e w'=>e=.returned (.string (s.extract A (A+1)))/\Below E w w'/\BB E RB s (A+1) w'/\B5 RB w w':=GO E RB s A 1 w h hs oM hE;rw[hte]at KT;have KT':=A6 KT;obtain⟨B,hB⟩:=gA (s[A].toNat)
  rw[hB]at hb |-;have hB2:B<256:=by rw[<-hB];exact s[A].toNat_lt
  have wB:IntKind.i64.wrap (B:Int)=(B:Int):=by rw[IntKind.wrap_i64];omega
  have HA1:Hid (A+1<=s.size):=by show A+1<=s.size;omega
  by_cases q:B<lo\/hi<B
  .have HP:Hid (AO lo hi (B::(Ab s).drop (A+1)) A=.error (243,A)):=by show(if B<lo\/hi<B then _ else _)=_;rw[if_pos q]
   rw[HP.out];unfold AX B2;simp only;clear hB hte h KT HP hlt;by_cases q1:B<lo
   .have e1:(B:Int)<(lo:Int):=oM;exact Sy
   .have e1:¬ (B:Int)<(lo:Int):=oM;have e2:(hi:Int)<(B:Int):=oM;exact Sy
  .have HP:Hid (AO lo hi (B::(Ab s).drop (A+1)) A=.ok (B,(Ab s).drop (A+1),A+1)):=by show(if B<lo\/hi<B then _ else _)=_;rw[if_neg q]
   rw[HP.out];unfold AX;simp only;have e1:¬ (B:Int)<(lo:Int):=oM;have e2:¬ (hi:Int)<(B:Int):=oM;clear hB hte h KT HP hlt q;go_enter func85,ntmps85;go_wp2_with(go_at_call 83;(with_reducible refine KT'.out.mono ?_);rintro e9 w4 ⟨rfl,hb4,hm4,ho4⟩;have HB4:=A6 hb4;have HM4:=A6 hm4;have HO4:=A6 ho4;clear hb4 hm4 ho4);refine bodyPost_ret (by simp[results,results85,go_sem, *];try rfl) rfl ?_;exact⟨rfl,HB4.out,HO4.out,HM4.out,HA1.out,trivial⟩
 .rw[EF oM];have KT:Hid (Calls prog 83 #[.pointer (some ⟨RB,0,none⟩),.int .i64 1] w fun e w'=>e=B2 242 A/\Below w.heap.size w w'):=FN E RB s A 1 w h hA hs oM oM;have HEW:=A6 hE;unfold AO AX B2;unfold B2 at KT;simp only;clear h hlt;go_enter func85,ntmps85;exact SH
section
open Go.Lib (strCells run_append_own_string run_append_room_string run_append_grow_string)
theorem F0{P:Program}{w w':World}{ops:Array Oper}{rest:List Oper}{o:Oper}{a:Act}{Q:Exit->Act->World->Prop}(hgd:o.guard=none)(s x:Operand)(t u:TypeId)
 (ho:o.op=.call {callee:=.builtin .append,args:=#[s,x],argTypes:=#[t,u]}) (v v2 v':Value) (hs:a.eval s=v) (hx:a.eval x=v2) (hr:(Builtin.append_ #[t,u] o.type #[v,v2]).run P w=.ok v' w')
 (h:wpList P ops Q rest (a.put o.dst v') w'):wpList P ops Q (o::rest) a w:=
 wpList_plain hgd fun _ hK=>by
  exact SJ
theorem IG{P:Program}{w w':World}{o:Oper}{a:Act}{K:Act->World->Prop}{Q:Exit->Act->World->Prop}(s x:Operand)(t u:TypeId)
 (ho:o.op=.call {callee:=.builtin .append,args:=#[s,x],argTypes:=#[t,u]}) (v v2 v':Value) (hs:a.eval s=v) (hx:a.eval x=v2) (hr:(Builtin.append_ #[t,u] o.type #[v,v2]).run P w=.ok v' w')
 (h:K (a.put o.dst v') w') (y':Bool) (hy:y'=true):if y'=true then Oper.wp P o a w K Q else K (a.put o.dst undef) w:=by
 rw[if_pos hy];exact Ry
theorem JW(s:ByteArray):strCells s=GQ (Ab s):=by unfold strCells GQ Ab;rw[List.map_map];rfl
theorem M6{B:Nat}{V:World}{v:Value}{n:Nat}{xs:List Value}(h:V.ownsRow B 5 1 v n xs)(hB:B<=V.heap.size)(s:ByteArray)(hn:n+s.size<=200000000)(ty:TypeId):
 ∃v' w',(Builtin.append_ #[49,9] ty #[v,.string s]).run prog V=.ok v' w'/\w'.ownsRow B 5 1 v' (n+s.size) (xs++strCells s)/\V.grownBy w' v.ownBlock/\(v'.ownBlock=none\/v'.ownBlock=v.ownBlock\/v'.ownBlock=some V.heap.size):=by
 obtain⟨i0,hi0,hz0,hz1,hz2⟩:=info_parts Fa;have ht:prog.underlying 49=some (.slice 5):=underlying49;have hu:prog.underlying 9=some .string:=underlying9;have hmx:n+s.size<=maxLen:=mL;obtain⟨v',w',hr,ho,hg,hnn⟩:=run_append_own_string (P:=prog) V B _ _ ty _ i0 ht hu hi0 hz0 hz1 hz2 v n xs h s hmx oM hB;refine⟨v',w',hr,ho,hg,?_⟩;rcases h.2 with⟨rfl,rfl⟩|⟨g,cap,cur,rfl,hbg,hgc,hnc,hcm,hcs,htake⟩
 .by_cases hm:s.size=0
  .left;rw[hnn.2 ⟨rfl,hm⟩];rfl
  .have h2:=run_append_nil_string (P:=prog) V _ _ ty _ i0 (.int .u8 0) ht hu hi0 hz0 s oM oM (by rw[hz2];omega);rw[hr]at h2;injection h2 with h3 h4;right;right;rw[h3];rfl
 .by_cases hroom:n+s.size<=cap
  .have h2:=run_append_room_string (P:=prog) V _ _ ty _ i0 ht hu hi0 hz1 g n cap cur hgc s hroom oM;rw[hr]at h2;injection h2 with h3 h4;right;left;rw[h3];rfl
  .have holds:∀j u,xs[j]? =some u->V.cell? ((⟨g,0,none⟩:Addr).add j)=some u:=h.cells (g:=g) rfl;have h2:=run_append_grow_string (P:=prog) V _ _ ty _ i0 (.int .u8 0) ht hu hi0 hz0 ⟨g,0,none⟩ n cap xs (by rw[hz1];exact h.1) holds s oM oM (by rw[hz2];exact growslice_fits oM oM);rw[hr]at h2;injection h2 with h3 h4;right;right;rw[h3];rfl
theorem Bm.appS{E WB:Nat}{l:List Nat}{v:Value}{w:World}(h:Bm E WB l v w)(s:ByteArray)(hl:l.length+s.size<=100000000):
 ∃p q p' q' n' w',v=.slice p l.length q/\(Builtin.append_ #[49,9] 49 #[.slice p l.length q,.string s]).run prog w=.ok (.slice p' n' q') w'/\w'.cell? ⟨WB,0,none⟩=some (.slice p l.length q)/\w'.frozen? ⟨WB,0,none⟩=false/\Below E w (w'.setCell ⟨WB,0,none⟩ (.slice p' n' q'))/\Bm E WB (l++Ab s) (.slice p' n' q') (w'.setCell ⟨WB,0,none⟩ (.slice p' n' q'))/\Bh WB v w (.slice p' n' q') (w'.setCell ⟨WB,0,none⟩ (.slice p' n' q'))/\w.grownBy w' v.ownBlock:=by
 obtain⟨p,q,rfl⟩:=AF h.o;obtain⟨v',w',h1,h3,h4,h5⟩:=M6 h.o h.le s oM 49;obtain⟨p',q',rfl⟩:=AF h3;have hb':=h.b.of_block (h4.block _ h.b.lt (fun e=>Fw h.o h.b dE e.symm));have h2:Below E w w':=(Below.refl E w).grown h4 h.le (fun q e=>(h.o.lt q e).1);refine⟨p,q,p',q',_,w',rfl,h1,hb'.cell (i:=0) dE,hb'.frozen 0,h2.setCell h.ge _,⟨(hb'.set 0 _).congr fun j hj=>?_,?_,h.ge,by simpa using gH h.le h2.size⟩,⟨by simpa using h2.size,fun k k1 k2 k3=>⟨(gE k2).trans (h4.block k k1 (Ne.symm k3)),fun e=>?_⟩⟩,h4⟩
 .have:j=0:=oM;subst this;rfl
 .rw[List.length_append,Ah,show GQ (l++Ab s)=GQ l++GQ (Ab s) by unfold GQ;rw[List.map_append],<-JW];exact SY
 .rcases h5 with q9|q9|q9
  .rw[q9]at e;exact absurd e sM
  .exact k3 (q9.symm.trans e)
  .rw[q9]at e;have:=Option.some.inj e;omega
theorem Fm{p:Bd}(h:El p):(BL p).length<=90:=by
 obtain⟨h1,h2,h3,h4,h5⟩:=h;have a1:=AU (n:=p.len.toNat) oM;have a2:=AU (n:=p.name.size) oM;unfold BL Fl CI;rw[List.length_append,List.length_append,List.length_append,Ah,if_pos rfl,List.length_singleton];omega
theorem Nn(E WB:Nat)(l:List Nat)(v:Value)(w:World)(h:Bm E WB l v w)(x:Bd)(hs:El x)(hl:l.length+100<=100000000):
 Calls prog 41 #[.pointer (some ⟨WB,0,none⟩),.agg #[.string x.name,.int .i64 x.kind,.int .i64 x.len]] w fun e w'=>e=.returned (.tuple #[])/\Below E w w'/\∃v',Bm E WB (l++BL x) v' w'/\Bh WB v w v' w':=by
 obtain⟨nm,kd,ln⟩:=x;obtain⟨s1,s2,s3,s4,s5⟩:=hs;simp only at s1 s2 s3 s4 s5 |-;obtain⟨K,hK⟩:∃B:Nat,kd=(B:Int):=⟨kd.toNat,oM⟩
 obtain⟨I,hI⟩:∃I:Nat,ln=(I:Int):=⟨ln.toNat,oM⟩
 subst hK hI;have hi9:=AU (n:=I) oM;have hn9:=AU (n:=nm.size) oM;have hbn:=Ah nm;have HET:Hid (BL ⟨nm,(K:Int),(I:Int)⟩=[K]++((Az nm.size++Ab nm)++Az I)):=by
  show BL ⟨nm,(K:Int),(I:Int)⟩=_;unfold BL Fl CI;simp only[Int.toNat_natCast,if_true]
 obtain⟨V,hV⟩:=gA (w.alloc (.cells #[.string nm,.int .i64 (K:Int),.int .i64 (I:Int)] 59))
 have hb0:Below w.heap.size w V:=by rw[<-hV];exact A7 _ _
 have hs0:V.heap.size=w.heap.size+1:=by rw[<-hV];simp
 obtain⟨X,hX⟩:=gA (w.heap.size)
 have x0:V.cell? ⟨X,0,none⟩=some (.string nm):=by rw[<-hV,<-hX];simp[go_sem]
 have x1:V.cell? ⟨X,1,none⟩=some (.int .i64 (K:Int)):=by rw[<-hV,<-hX];simp[go_sem]
 have x2:V.cell? ⟨X,2,none⟩=some (.int .i64 (I:Int)):=by rw[<-hV,<-hX];simp[go_sem]
 have HXC:Hid (∀u:World,u.heap[X]? =V.heap[X]? ->u.cell? ⟨X,0,none⟩=some (.string nm)/\u.cell? ⟨X,1,none⟩=some (.int .i64 (K:Int))/\u.cell? ⟨X,2,none⟩=some (.int .i64 (I:Int))):=fun u hu=>⟨(gC hu (a:=⟨X,0,none⟩)).trans x0,(gC hu (a:=⟨X,1,none⟩)).trans x1,(gC hu (a:=⟨X,2,none⟩)).trans x2⟩
 have h0:=h.below hb0;have HXN:Hid (X<V.heap.size/\X≠WB/\v.ownBlock≠some X):=⟨oM,by have:=h.b.lt;omega,fun e=>by have:=(h.o.lt _ e).2;omega⟩
 have KS:=A6 (CC E WB l v V h0 oM K oM);have KN:=A6 (fun(m:List Nat) (v:Value) (u:World) (a:Bm E WB m v u) (n:Nat) (hn:n<9223372036854775808) (b:m.length+(Az n).length<=100000000)=>Bx E WB m v u a n hn b);have HBE:Hid (Below E w V):=hb0.mono h.le;have HOV:Hid (∀v' w',Bh WB v V v' w'->Bh WB v w v' w'):=fun v' w' q=>Bh.below h hb0 q;have hl1:(l++[K]).length+(Az nm.size).length<=100000000:=by rw[List.length_append,List.length_singleton];omega
 have hl2:((l++[K])++Az nm.size).length+nm.size<=100000000:=by rw[List.length_append,List.length_append,List.length_singleton];omega
 have hl3:(((l++[K])++Az nm.size)++Ab nm).length+(Az I).length<=100000000:=by rw[List.length_append,List.length_append,List.length_append,List.length_singleton];omega
 have hm1:nm.size<9223372036854775808:=oM;have hm2:I<9223372036854775808:=oM;have HT:Hid (l++BL ⟨nm,(K:Int),(I:Int)⟩=((((l++[K])++Az nm.size)++Ab nm)++Az I)):=by
  show l++BL _=_;rw[HET.out];simp
 clear h h0 hb0 hs0 s1 s2 s3 s4 s5 hi9 hn9 hbn HET hl;go_enter func41,ntmps41;go_upto_region 1 with fail;try rw[hV]
 try rw[hX]
 clear hV hX;go_upto_region 2 with(go_at_call 80;(with_reducible refine KS.out.mono ?_);rintro e9 w4 ⟨rfl,hb4,v4,hm4,ho4⟩;have HB4:=A6 hb4;have HM4:=A6 hm4;have HO4:=A6 ho4;clear hb4 hm4 ho4)
 obtain⟨hX4,hv4⟩:=HO4.out.2 X HXN.out.1 HXN.out.2.1 HXN.out.2.2;clear x0 x1 x2;obtain⟨x0,x1,x2⟩:=HXC.out w4 hX4;have KN4:=A6 (KN.out _ _ _ HM4.out nm.size hm1 hl1);go_upto_region 3 with(go_at_call 79;(with_reducible refine KN4.out.mono ?_);rintro e9 w5 ⟨rfl,hb5,v5,hm5,ho5⟩;have HB5:=A6 hb5;have HM5:=A6 hm5;have HO5:=A6 ho5;clear hb5 hm5 ho5)
 obtain⟨hX5,hv5⟩:=HO5.2 X (Nat.lt_of_lt_of_le HXN.1 HO4.1) HXN.2.1 hv4;clear x0 x1 x2;obtain⟨x0,x1,x2⟩:=HXC.out w5 (hX5.trans hX4);have hbd:Below w5.heap.size w5 w5.drew:=(Below.refl _ _).drew;have HM5D:=A6 (HM5.below hbd);obtain⟨p,q,p',q',n',w6,hv6,hrun,c6,f6,hb6,hm6,ho6,hg6⟩:=HM5D.appS nm hl2;subst hv6;have b0:w5.cell? ⟨WB,0,none⟩=some (.slice p ((l++[K])++Az nm.size).length q):=HM5.b.cell (i:=0) dE;obtain⟨L5,hL5⟩:∃n,((l++[K])++Az nm.size).length=n:=⟨_,rfl⟩
 rw[hL5]at b0 c6 hrun;have HRUN:=A6 hrun;have HXL:Hid (X<w5.heap.size):=Nat.lt_of_lt_of_le (Nat.lt_of_lt_of_le HXN.1 HO4.1) HO5.1;have h6X:w6.heap[X]? =V.heap[X]? :=(hg6.block X (by simpa using HXL.out) (Ne.symm hv5)).trans ((hbd.block X HXL.out).trans (hX5.trans hX4));have HB6:Hid (Below E w5 (w6.setCell ⟨WB,0,none⟩ (.slice p' n' q'))):=(hbd.mono HM5.le).trans hb6;have HM6:=A6 hm6;have HO6:=A6 (Bh.below HM5.out hbd ho6);obtain⟨y0,y1,y2⟩:=HXC.out w6 h6X;have nXW:¬X=WB:=HXN.2.1;have nWX:¬WB=X:=fun r=>nXW r.symm;have hX6:(w6.setCell ⟨WB,0,none⟩ (.slice p' n' q')).heap[X]? =V.heap[X]? :=(gE nXW).trans h6X;have KN6:=A6 (KN.out _ _ _ HM6.out I hm2 hl3);obtain⟨W6,hW6⟩:∃W,w6.setCell ⟨WB,0,none⟩ (.slice p' n' q')=W:=⟨_,rfl⟩
 have HW6:=A6 hW6;rw[hW6]at HB6 HM6 HO6 hX6 KN6;have HX6:=A6 hX6;clear hrun hbd hm6 ho6 hb6 hg6 h6X hX4 hX5 hv4 hv5 hX6 hW6 hL5 HM5D;go_cut [] (fun wx=>wx=W6)
 case first=>
  refine rG (fun v=>v.cell? ⟨X,0,none⟩=some (.string nm)) fun hJ=>?_;refine wpAnyH_take (i:=0) (v:=?_) A8 kR kR kR A9 (Or.inl ⟨rF,?_⟩) Aa ?_
  rotate_left 1
  ·(intro wS hSw;(try dsimp only at hSw);go_simp;try(with_reducible rfl))
  try simp only[Act.put,List.setIfInBounds_toArray,List.set_cons_zero,List.set_cons_succ]
  refine wpAnyH_take (i:=1) (v:=?_) A8 kR kR kR A9 (Or.inl ⟨rF,?_⟩) Aa ?_
  rotate_left 1
  ·(intro wS hSw;(try dsimp only at hSw);go_simp;try(with_reducible rfl))
  try simp only[Act.put,List.setIfInBounds_toArray,List.set_cons_zero,List.set_cons_succ]
  refine wpAnyH_take (i:=2) (v:=?_) A8 kR kR kR A9 (Or.inl ⟨rF,?_⟩) Aa ?_
  rotate_left 1
  ·(intro wS hSw;(try dsimp only at hSw);go_simp;try(with_reducible rfl))
  try simp only[Act.put,List.setIfInBounds_toArray,List.set_cons_zero,List.set_cons_succ]
  refine wpAnyH_take (i:=3) (v:=?_) A8 kR kR kR A9 (Or.inl ⟨rF,?_⟩) Aa ?_
  rotate_left 1
  ·(intro wS hSw;(try dsimp only at hSw);go_simp;try(with_reducible rfl))
  try simp only[Act.put,List.setIfInBounds_toArray,List.set_cons_zero,List.set_cons_succ]
  refine wpAnyH_take (i:=5) (v:=?_) A8 kR kR kR A9 (Or.inl ⟨rF,?_⟩) Aa ?_
  rotate_left 1
  ·(intro wS hSw;(try dsimp only at hSw);go_simp;try(with_reducible rfl))
  try simp only[Act.put,List.setIfInBounds_toArray,List.set_cons_zero,List.set_cons_succ]
  clear hJ;refine wpAnyH_ready (rs:=[4,6]) kR sM ?_;refine Q4 4 (fun K hK=>?_) ?_
  .go_simp;refine AW hK fun hJ=>?_;clear hK K;clear hJ;refine AP 6 fun K hK=>?_;exact Sk
  refine Q4 6 (fun K hK=>?_) AllReadyH.nil;go_simp;refine AW hK fun hJ=>?_;clear hK K;clear hJ;refine AP 4 fun K hK=>?_;exact Sk
 case rest=>
  subst hcut;clear x0 x1 x2 y0 y1 y2 b0 c6 f6;obtain⟨x0,x1,x2⟩:=HXC.out _ HX6.out;go_wp2_with(go_at_call 79;(with_reducible refine KN6.out.mono ?_);rintro e9 w7 ⟨rfl,hb7,v7,hm7,ho7⟩;have HB7:=A6 hb7;have HM7:=A6 hm7;have HO7:=A6 ho7;clear hb7 hm7 ho7);first|go_end0|refine bodyPost_ret (results_none rfl _ _ _) rfl ?_
  refine⟨rfl,(((HBE.trans HB4.out).trans HB5.out).trans HB6.out).trans HB7.out,v7,?_,HOV.out _ _ (((HO4.trans HO5.out).trans HO6.out).trans HO7.out)⟩;rw[HT.out];exact HM7.out
end
theorem Ho:∀x:Bd,∀u∈As x,u.oneCell'=true:=fun x u hu=>by simp[As]at hu;rcases hu with rfl|rfl|rfl<;>rfl
theorem JV:∀x:Ty,∀u∈Ed x,u.oneCell'=true:=fun x u hu=>by simp[Ed]at hu;rcases hu with rfl|rfl<;>rfl
theorem JT:∀x:Sl,∀u∈EP x,u.oneCell'=true:=fun x u hu=>by simp[EP]at hu;rcases hu with rfl|rfl|rfl|rfl|rfl<;>rfl
theorem Ge:(prog.info? 62).map (fun i=>(i.zero,i.size,i.bytes))=some (some (.agg #[.int .i64 0,.int .i64 0]),2,16):=kR
theorem Gd:(prog.info? 66).map (fun i=>(i.zero,i.size,i.bytes))=some (some (.agg #[.int .i64 0,.int .i64 0,.bool false,.int .u32 0,.int .i64 0]),5,32):=kR
def f4(a b c d:Value)(j:Nat):Value:=if j=0 then a else if j=1 then b else if j=2 then c else d
structure EE(B:Nat)(w:World)(u0 u1 u2 u3:Value)(c:Cd):Prop where
 sign:w.ownsRow B 59 3 u0 c.sign.length (AH As c.sign)
 regs:w.ownsRow B 62 2 u1 c.regs.length (AH Ed c.regs)
 slots:w.ownsRow B 66 5 u2 c.slots.length (AH EP c.slots)
 list:w.ownsRow B 70 7 u3 c.list.length (AH C2 c.list)
end Go.Proofs.YtnlgkkbmbijndaaGreat
