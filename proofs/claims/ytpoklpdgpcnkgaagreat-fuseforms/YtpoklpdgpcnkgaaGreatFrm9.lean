import Derived.Test.YtpoklpdgpcnkgaaGreatFrm1
import Derived.Test.YtpoklpdgpcnkgaaGreatFrm8
import Derived.Test.YtpoklpdgpcnkgaaGreatFrm6
import Derived.Test.YtpoklpdgpcnkgaaGreatFrm2
import Derived.Deep.AppendLies
import Derived.Test.YtpoklpdgpcnkgaaGreatRows
import Derived.WalkKit
import Derived.ProofKit
import Derived.OpenShut
import Derived.JoinedCond
import Derived.Deep.Slices
import Derived.Deep.Strs
import Derived.SizedLaws
namespace Go.Proofs.YtpoklpdgpcnkgaaGreat
open Go.RowKit Go.Proofs.Tryz
set_option linter.all false
set_option maxRecDepth 100000
set_option maxHeartbeats 16000000
theorem Fg:(prog.info? 4).map (fun i=>(i.zero,i.size,i.bytes))=some (some (.bool false),1,1):=kR
theorem make_B(m:Nat)(h:m<=70368744177664)(w:World):(Instr.makeSlice 74 (.int .i64 m) (.int .i64 m)).run prog w=.ok (.slice (some ⟨w.heap.size,0,none⟩) m m) (w.alloc (.cells (madeCells #[.bool false] m) 4)):=
 run_make_row' (P:=prog) 74 4 (.bool false) 1 underlying74 Fg rfl .i64 .i64 m oM oM w
theorem WS.start(w:World)(C n:Nat):WS w.heap.size (w.heap.size+1) C n w.heap.size (.slice none 0 0) (.slice none 0 0) ((w.alloc (.cells (madeCells #[.bool false] n) 4)).alloc (.cells #[.pointer (some ⟨C,0,none⟩),.slice (some ⟨w.heap.size,0,none⟩) n n,.slice none 0 0,.slice none 0 0] 90)) ⟨[],[]⟩:=by
 have h1:=(World.rowIs_made w (.bool false) n 4).alloc (.cells #[.pointer (some ⟨C,0,none⟩),.slice (some ⟨w.heap.size,0,none⟩) n n,.slice none 0 0,.slice none 0 0] 90);have h2:=World.rowIs_alloc (w.alloc (.cells (madeCells #[.bool false] n) 4)) #[.pointer (some ⟨C,0,none⟩),.slice (some ⟨w.heap.size,0,none⟩) n n,.slice none 0 0,.slice none 0 0] 90 (wkF C w.heap.size n (.slice none 0 0) (.slice none 0 0)) (fun i hi=>by
  have hi':i<4:=hi;obtain rfl|rfl|rfl|rfl:i=0\/i=1\/i=2\/i=3:=oM
  all_goals rfl)
 have hs:(w.alloc (.cells (madeCells #[.bool false] n) 4)).heap.size=w.heap.size+1:=sM;rw[hs]at h2;exact⟨h2,h1.congr fun j _=>by simp,World.ownsRow_nil _ _ _ 1,World.ownsRow_nil _ _ _ 3,oM,gF _,oM,by simp[Value.ownBlock],by simp[Value.ownBlock],by simp[Value.ownBlock],by simp[Value.ownBlock],by simp[Value.ownBlock]⟩
theorem LJ(v0 v1 v2 v3:Value)(c:Cd)(hk:AZ c)(w:World)(hv:CH w v0 v1 v2 v3 c):
 Calls prog 23 #[.agg #[v0,v1,v2,v3]] w fun e w'=>e=.returned (.tuple #[.int .i64 (Ax c).1,.int .i64 (Ax c).2])/\Below w.heap.size w w':=by
 have hat:CI (w.alloc (.cells #[v0,v1,v2,v3] 27)) w.heap.size v0 v1 v2 v3 c:=by
  refine⟨fun j hj=>?_,hv.below (A0 _ _)⟩;have hj':j<4:=hj;obtain rfl|rfl|rfl|rfl:j=0\/j=1\/j=2\/j=3:=oM
  all_goals simp[go_sem]
 have K1:=JR w.heap.size v0 v1 v2 v3 c hk _ hat;unfold Ax;obtain⟨A,hA⟩:=gA (Cm c)
 rw[hA]at K1 |-;have HK1:Hid (Calls prog 39 #[.pointer (some ⟨w.heap.size,0,none⟩)] (w.alloc (.cells #[v0,v1,v2,v3] 27)) fun e w'=>e=.returned (.int .i64 A)/\Below (w.alloc (.cells #[v0,v1,v2,v3] 27)).heap.size (w.alloc (.cells #[v0,v1,v2,v3] 27)) w'):=K1;clear K1;by_cases h0:A=0
 .rw[if_neg (by simp[h0])];have hsz:c.regs.length<=16384/\c.list.length<=32768/\Ak c=true:=by
   rw[h0]at hA;unfold Cm at hA;split at hA
   .rename_i e1;exact absurd hA e1
   .split at hA
    .exact absurd hA dE
    .split at hA
     .exact absurd hA dE
     .split at hA
      .rename_i e1 e2 e3 e4;simp only[Bool.and_eq_true]at e4;exact⟨oM,oM,e4.1⟩
      .exact absurd hA dE
  obtain⟨hn,hN,htm⟩:=hsz;clear hA;subst h0;have KT:=fun E G gi vs vo s b o i w h ok hc hi hb hb0 hb1=>P9 E G w.heap.size c.regs.length gi vs vo s v0 v1 v2 v3 c hk b o i w h rfl ok hn hc hi hb htm hb0 hb1;clear KT;have hr:=hv.list;obtain⟨p3,q3,rfl,hr3⟩:=hv.list;obtain⟨p1,q1,rfl,hr1⟩:=hv.regs;have HAT:Hid (CI (w.alloc (.cells #[v0,.slice p1 c.regs.length q1,v2,.slice p3 c.list.length q3] 27)) w.heap.size v0 (.slice p1 c.regs.length q1) v2 (.slice p3 c.list.length q3) c):=hat;obtain⟨Pr,hPr⟩:∃P,Lr c ⟨[],[]⟩ 0 c.list=P:=⟨_,rfl⟩
  rw[hPr];have HP:Hid (Lr c ⟨[],[]⟩ 0 c.list=Pr):=hPr;have HROW:Hid (AM 7 Cv w (.slice p3 c.list.length q3) c.list):=hr;have HIB:Hid (∀i∈c.list,0<=i.bits/\i.bits<4294967296):=hk.ibits;obtain⟨n,hnn⟩:=gA (c.regs.length)
  obtain⟨N,hNN⟩:=gA (c.list.length)
  have HNE:Hid (c.regs.length=n):=hnn;have HNL:Hid (c.list.length=N):=hNN;rw[hnn]at hn HK1 HAT;rw[hNN]at hN HK1 HAT HROW;rw[hnn,hNN];have mk:=fun w=>make_B n oM w;have HOKC:Hid (AZ c):=hk;have HTM:Hid (Ak c=true):=htm;have f1:=HAT.1.at 1 rfl;have f3:=HAT.1.at 3 rfl;rw[Nat.zero_add]at f1 f3;have HC:Hid (∀v,Below (w.alloc (.cells #[v0,.slice p1 n q1,v2,.slice p3 N q3] 27)).heap.size (w.alloc (.cells #[v0,.slice p1 n q1,v2,.slice p3 N q3] 27)) v->v.cell? ⟨w.heap.size,1,none⟩=some (.slice p1 n q1)/\v.cell? ⟨w.heap.size,3,none⟩=some (.slice p3 N q3)):=fun v hv=>⟨kc hv f1,kc hv f3⟩
  clear hat hv hr hr3 hr1 hPr hnn hNN hk htm f1 f3;go_enter func23,ntmps23;go_wp2_with(go_at_call 39;refine HK1.mono ?_;rintro e w1 ⟨rfl,hb1⟩;obtain⟨g1,g3⟩:=HC.out w1 hb1;have g4:((w1.alloc (.cells (madeCells #[.bool false] n) 4)).alloc (.cells #[.pointer (some ⟨w.heap.size,0,none⟩),.slice (some ⟨w1.heap.size,0,none⟩) n n,.slice none 0 0,.slice none 0 0] 90)).cell? ⟨w.heap.size,3,none⟩=some (.slice p3 N q3):=kc (A0 _ _) (kc (A0 _ _) g3));have HB1:Hid (Below w.heap.size w w1):=bel (A0 _ _) hb1;have HAT1:Hid (CI w1 w.heap.size v0 (.slice p1 n q1) v2 (.slice p3 N q3) c):=HAT.below hb1;have hs1:w.heap.size<w1.heap.size:=by have:=hb1.size;simp at this;omega
  have HS0:=WS.start w1 w.heap.size n;have HB0:Below w1.heap.size w1 ((w1.alloc (.cells (madeCells #[.bool false] n) 4)).alloc (.cells #[.pointer (some ⟨w.heap.size,0,none⟩),.slice (some ⟨w1.heap.size,0,none⟩) n n,.slice none 0 0,.slice none 0 0] 90)):=bel (A0 _ _) (A0 _ _);obtain⟨W2,hW2⟩:=gA ((w1.alloc (.cells (madeCells #[.bool false] n) 4)).alloc (.cells #[.pointer (some ⟨w.heap.size,0,none⟩),.slice (some ⟨w1.heap.size,0,none⟩) n n,.slice none 0 0,.slice none 0 0] 90))
  rw[hW2]at HS0 HB0;try rw[hW2]
  clear HK1 HC hb1 mk HAT g4 hW2
  go_loopw [19] (fun iv wr=>∃ (j:Nat) (s:Wk) (vs vo:Value),j<=N/\iv=.int .i64 j/\Below w1.heap.size w1 wr/\WS w1.heap.size (w1.heap.size+1) w.heap.size n w1.heap.size vs vo wr s/\El n s/\Hid (Lr c s j (c.list.drop j)=Pr)) (fun iv _=>N-(intOf iv).toNat)
  case atStart=>exact⟨0,⟨[],[]⟩,_,_,gI _,rfl,HB0,HS0,El.start n,by show _=_;rw[List.drop_zero];exact HP.out⟩
  case round=>
   obtain⟨j,s,vs,vo,hj,rfl,hb,hws,hok,hgo⟩:=hrel;have HWS:Hid (WS w1.heap.size (w1.heap.size+1) w.heap.size n w1.heap.size vs vo wr s):=hws;have HOK:Hid (El n s):=hok;have HBW:Hid (Below w1.heap.size w1 wr):=hb;have d3:=kc hb g3;have l3:=hws.c3;have hol:∃p q,vo=.slice p s.opens.length q:=AN hws.opn;have hnest:=hok.nest;clear HS0 HB0;by_cases hlt:j<N
   .have hll:j<c.list.length:=by rw[HNL.out];exact hlt
    have hgo':=hgo.out;rw[List.drop_eq_getElem_cons hll]at hgo';have hgi:Lr c s j (c.list[j]::c.list.drop (j+1))=if Al c s c.list[j]then Lr c (Ad s c.list[j]) (j+1) (c.list.drop (j+1))else(160,(j:Int)):=rfl;rw[hgi]at hgo';obtain⟨b,o,rfl,hx⟩:=HROW.at hll;have hbw:b<w.heap.size:=A6 (hx 0 (by simp[Cv]));have hxw:=(hx.below HB1.out).below hb;have KT:=P9 w1.heap.size (w1.heap.size+1) w.heap.size n w1.heap.size vs vo s v0 (.slice p1 n q1) v2 (.slice (some ⟨b,o,none⟩) N q3) c HOKC.out b (o+j*7) c.list[j] wr hws HNE.out hok hn (HAT1.below hb) hxw oM HTM.out (HIB.out _ (gD hll)).1 (HIB.out _ (gD hll)).2;have hokS:Al c s c.list[j]=true->El n (Ad s c.list[j]):=fun ht=>by
     have hq:El c.regs.length s:=by rw[HNE.out];exact hok
     have:=El.step hq ht;rw[HNE.out]at this;exact this
    obtain⟨X,hX⟩:=gA (Al c s c.list[j])
    rw[hX]at hgo' hokS;simp only[hX]at KT;have HKT:Hid (Calls prog 40 #[.pointer (some ⟨w1.heap.size+1,0,none⟩),.pointer (some ⟨b,o+j*7,none⟩)] wr fun e w'=>e=.returned (.bool X)/\Below w1.heap.size wr w'/\(X=true->∃vs' vo',WS w1.heap.size (w1.heap.size+1) w.heap.size n w1.heap.size vs' vo' w' (Ad s c.list[j]))):=KT;have HGO:Hid ((if X=true then Lr c (Ad s c.list[j]) (j+1) (c.list.drop (j+1))else(160,(j:Int)))=Pr):=hgo';have HOS:Hid (X=true->El n (Ad s c.list[j])):=hokS;have i1:(0:Int)<=(j:Int):=oM;have i2:(j:Int)<(N:Int):=oM;clear KT hgo hgo' hgi hokS hX hx hxw hws hok hb hol l3;cases X
    .go_wp2_with(go_at_call 40;refine HKT.mono ?_;rintro e w5 ⟨rfl,hb5,hw5⟩;have HB5:Hid (Below w1.heap.size wr w5):=hb5;clear hb5 hw5)
     go_ret2
     refine⟨?_,bel HB1.out (HBW.trans HB5.out)⟩;have:=HGO.out;rw[if_neg dE]at this;rw[<-this];rfl
    .go_wp2_with(go_at_call 40;refine HKT.mono ?_;rintro e w5 ⟨rfl,hb5,hw5⟩;have HB5:Hid (Below w1.heap.size wr w5):=hb5;have HW5:Hid (∃vs' vo',WS w1.heap.size (w1.heap.size+1) w.heap.size n w1.heap.size vs' vo' w5 (Ad s c.list[j])):=hw5 fT;clear hb5 hw5);go_roundw
     case rel=>
      obtain⟨vs',vo',hw5⟩:=HW5.out;exact⟨j+1,_,vs',vo',oM,gN,HBW.trans HB5.out,hw5,HOS.out fT,by show _=_;have:=HGO.out;rw[if_pos fT]at this;exact this⟩
     case measure=>simp[intOf];omega
   .have:j=N:=oM;subst this;have hgo':=hgo.out;rw[List.drop_of_length_le (by rw[HNL.out];exact gF _)]at hgo';have hgi:Lr c s j []=if s.opens.isEmpty then(0,0)else(160,(j:Int)):=rfl;rw[hgi]at hgo';obtain⟨p,q,rfl⟩:=hol;obtain⟨M,hM⟩:=gA (s.opens.length)
    rw[hM]at l3 hnest;have hE:s.opens.isEmpty=decide (M=0):=by
     rw[<-hM];cases s.opens with
     |nil=>rfl
     |cons a l=>simp
    rw[hE]at hgo';have HGO:Hid ((if decide (M=0)=true then((0:Int),(0:Int))else(160,(j:Int)))=Pr):=hgo';clear hgo hgo' hgi hE hM hws hok hb;by_cases hz:M=0
    .subst hz;go_wp2
     go_ret2
     refine⟨?_,bel HB1.out HBW.out⟩;rw[<-HGO.out];rfl
    .have hz':(0:Int)<(M:Int):=oM;have hz2:0<M:=oM;have HZ:Hid (¬M=0):=hz;clear hz;go_wp2;refine rG (fun v=>v.cell? ⟨w.heap.size,3,none⟩=some (.slice p3 j q3)) fun yH=>?_;refine Tc 0 1 2 ?_;refine Tb 3 4 ?_;refine wpAnyH_done kR ?_ _;go_wp2
     go_ret2
     refine⟨?_,(bel HB1.out HBW.out).drew⟩;have:=HGO.out;rw[if_neg (by simpa using HZ.out)]at this;rw[<-this];rfl
 .rw[if_pos h0];have h0':(A==0)=false:=by simpa using h0
  go_enter func23,ntmps23;go_wp2_with(go_at_call 39;refine HK1.mono ?_;rintro e w1 ⟨rfl,hb1⟩)
  all_goals(go_ret2;exact⟨rfl,bel (A0 _ _) hb1⟩)
def Bx(i:Ab):Value:=.agg #[.int .i64 i.op,.int .i64 i.d,.int .i64 i.a,.int .i64 i.b,.int .i64 i.c,.int .i64 i.n,.int .u32 i.bits]
theorem Tu{w v:World}{i:Ab}{t:TypeId}(k:Below (w.alloc (.cells #[.int .i64 i.op,.int .i64 i.d,.int .i64 i.a,.int .i64 i.b,.int .i64 i.c,.int .i64 i.n,.int .u32 i.bits] t)).heap.size (w.alloc (.cells #[.int .i64 i.op,.int .i64 i.d,.int .i64 i.a,.int .i64 i.b,.int .i64 i.c,.int .i64 i.n,.int .u32 i.bits] t)) v):As v w.heap.size 0 (Cv i):=by
 refine As.below (fun j hj=>?_) k;exact Zfd
theorem OZ(i:Ab)(w:World):Calls prog 64 #[Bx i] w fun e w'=>e=.returned (.bool ((A3 i.op).d != 0))/\Below w.heap.size w w':=by
 have K1:=fun w=>IK i.op w;obtain⟨r,hr⟩:=gA (A3 i.op)
 obtain⟨X,hX⟩:=gA (Ao i.op)
 simp only[hr,hX]at K1 |-;obtain⟨L0,L1,L2,L3,L4⟩:=r;obtain⟨op,D,A,B,E,n,bt⟩:=i;unfold Bx;unfold Ee at K1;simp only at K1 |-;have HK:Hid (∀w,Calls prog 58 #[.int .i64 op] w fun e w'=>e=.returned (.tuple #[.agg #[.int .i64 L0,.int .i64 L1,.int .i64 L2,.int .i64 L3,.int .i64 L4],.bool X])/\Below w.heap.size w w'):=K1;clear K1 hr hX;go_enter func64,ntmps64;go_wp2_with(go_at_call 58;refine(HK.out _).mono ?_;rintro e w1 ⟨rfl,hb1⟩);go_ret;exact⟨rfl,bel (bel (A0 _ _) hb1) (A0 _ _)⟩
theorem Ml(i:Ab)(w:World):Calls prog 65 #[Bx i] w fun e w'=>∃v,e=.returned v/\w'.ownsRow w.heap.size 3 1 v (Ac i (A3 i.op)).length (BH (Ac i (A3 i.op)))/\Below w.heap.size w w':=by
 have K1:=fun w=>IK i.op w;have K2:=fun w h=>Hf w.heap.size 0 i (A3 i.op) w h;clear K2;have K3:=fun b v h=>Hf b 0 i (A3 i.op) v h;have HIC:=fun(v:World) k=>Tu (w:=w) (v:=v) (i:=i) (t:=45) k;obtain⟨r,hr⟩:=gA (A3 i.op)
 obtain⟨X,hX⟩:=gA (Ao i.op)
 simp only[hr,hX]at K1 K3 |-;obtain⟨RL,hRL⟩:∃x,Ac i r=x:=⟨_,rfl⟩
 simp only[hRL]at K3 |-;obtain⟨L0,L1,L2,L3,L4⟩:=r;obtain⟨op,D,A,B,E,n,bt⟩:=i;unfold Bx;unfold Ee at K1 K3;simp only at K1 K3 HIC |-;have HK:Hid (∀w,Calls prog 58 #[.int .i64 op] w fun e w'=>e=.returned (.tuple #[.agg #[.int .i64 L0,.int .i64 L1,.int .i64 L2,.int .i64 L3,.int .i64 L4],.bool X])/\Below w.heap.size w w'):=K1;have HK3:Hid (∀b v,As v b 0 (Cv ⟨op,D,A,B,E,n,bt⟩)->Calls prog 61 #[.agg #[.int .i64 L0,.int .i64 L1,.int .i64 L2,.int .i64 L3,.int .i64 L4],.pointer (some ⟨b,0,none⟩)] v fun e w'=>∃u,e=.returned u/\w'.ownsRow v.heap.size 3 1 u RL.length (BH RL)/\Below v.heap.size v w'):=K3;have HCC:Hid (∀v,Below (w.alloc (.cells #[.int .i64 op,.int .i64 D,.int .i64 A,.int .i64 B,.int .i64 E,.int .i64 n,.int .u32 bt] 45)).heap.size (w.alloc (.cells #[.int .i64 op,.int .i64 D,.int .i64 A,.int .i64 B,.int .i64 E,.int .i64 n,.int .u32 bt] 45)) v->As v w.heap.size 0 (Cv ⟨op,D,A,B,E,n,bt⟩)):=HIC;clear K1 K3 HIC hr hX hRL;go_enter func65,ntmps65;go_wp2_with(first
  |(go_at_call 58;refine(HK.out _).mono ?_;rintro e w1 ⟨rfl,hb1⟩)
  |(go_at_call 61;refine(HK3.out _ _ (HCC.out _ (bel hb1 (A0 _ _)))).mono ?_;rintro e w2 ⟨u,rfl,hu,hb2⟩;have HU:Hid (w2.ownsRow (w1.alloc (.cells #[.int .i64 L0,.int .i64 L1,.int .i64 L2,.int .i64 L3,.int .i64 L4] 123)).heap.size 3 1 u RL.length (BH RL)):=hu;have HB2:Hid (Below w.heap.size w w2):=bel (bel (bel (A0 _ _) hb1) (A0 _ _)) hb2;have hs:w.heap.size<=(w1.alloc (.cells #[.int .i64 L0,.int .i64 L1,.int .i64 L2,.int .i64 L3,.int .i64 L4] 123)).heap.size:=(bel (bel (A0 _ _) hb1) (A0 _ _)).size;have HSZ:Hid (w.heap.size<=(w1.alloc (.cells #[.int .i64 L0,.int .i64 L1,.int .i64 L2,.int .i64 L3,.int .i64 L4] 123)).heap.size):=hs;clear hu hb2 hs))
 go_ret;exact⟨_,rfl,BU HU.out HSZ.out,HB2.out⟩
def AF{α:Type}(f:α->List Value)(l:List α):List Value:=l.flatMap f
theorem E5{α:Type}{f:α->List Value}{k:Nat}(hf:∀x,(f x).length=k):∀l:List α,(AF f l).length=l.length*k
 |[]=>by simp[AF]
 |a::l=>by
  have e:AF f (a::l)=f a++AF f l:=by simp[AF]
  rw[e,List.length_append,E5 hf l,hf,List.length_cons,Nat.add_mul,Nat.one_mul,Nat.add_comm]
theorem Ju{α:Type}{f:α->List Value}{k:Nat}(hf:∀x,(f x).length=k):∀ (l:List α) (i j:Nat) (hi:i<l.length),j<k->(AF f l)[i*k+j]? =(f l[i])[j]?
 |[],i,j,hi,hj=>absurd hi (Nat.not_lt_zero _)
 |a::l,0,j,hi,hj=>by
  have e:AF f (a::l)=f a++AF f l:=by simp[AF]
  rw[e,Nat.zero_mul,Nat.zero_add,List.getElem?_append_left (by rw[hf];exact hj)];rfl
 |a::l,i+1,j,hi,hj=>by
  have e:AF f (a::l)=f a++AF f l:=by simp[AF]
  have e2:(i+1)*k+j-(f a).length=i*k+j:=by rw[hf,Nat.add_mul,Nat.one_mul];omega
  rw[e,List.getElem?_append_right (by rw[hf,Nat.add_mul,Nat.one_mul];omega),e2];exact Ju hf l i j (by simpa using hi) hj
theorem E4{α:Type}(f:α->List Value)(l m:List α):AF f (l++m)=AF f l++AF f m:=by simp[AF]
theorem C6{α:Type}{f:α->List Value}{k:Nat}(hf:∀x,(f x).length=k){w:World}{B:Nat}{t:TypeId}{v:Value}{l:List α}(h:w.ownsRow B t k v l.length (AF f l)):AM k f w v l:=by
 by_cases h0:l=[]
 .subst h0;obtain⟨p,c,hv⟩:=AN h;exact⟨p,c,hv,.inl rfl⟩
 .obtain⟨g,cap,hv,_,_,_,_,hcl⟩:=Ea h (List.length_pos_iff.2 h0);refine⟨_,cap,hv,.inr ⟨g,0,rfl,fun i hi j hj=>?_⟩⟩;rw[Nat.zero_add];exact hcl _ _ (by rw[Ju hf l i j hi (by rw[<-hf l[i]];exact hj)];exact gB hj)
theorem NM(b o j:Nat):(⟨b,o,none⟩:Addr).add j=⟨b,o+j,none⟩:=by unfold Addr.add;split<;>simp_all
theorem GM{α:Type}{f:α->List Value}{k:Nat}(hk:0<k)(hf:∀x,(f x).length=k){w:World}{b o:Nat}{l:List α}(h:∀i (hi:i<l.length),As w b (o+i*k) (f l[i]))(j:Nat)(u:Value)(hu:(AF f l)[j]? =some u):w.cell? ((⟨b,o,none⟩:Addr).add j)=some u:=by
 have hj:j<l.length*k:=by have:=(List.getElem?_eq_some_iff.1 hu).1;rwa[E5 hf]at this
 have hi:j/k<l.length:=Nat.div_lt_of_lt_mul (by rw[Nat.mul_comm];exact hj);have hm:j%k<k:=Nat.mod_lt _ hk;have e:j=j/k*k+j%k:=by rw[Nat.mul_comm];exact(Nat.div_add_mod j k).symm
 rw[e,Ju hf l _ _ hi hm]at hu;rw[NM];have:=(h _ hi).at _ hu;rw[Nat.add_assoc,<-e]at this;exact this
theorem F9{α:Type}{f:α->List Value}{k bytes:Nat}{t e:TypeId}{z:Value}{i:TypeInfo}(hk:0<k)(hf:∀x,(f x).length=k)(h1:∀x,∀u∈f x,u.oneCell'=true)(ht:prog.underlying t=some (.slice e))(hi:prog.info? e=some i)(hz:i.zero=some z)(hsize:i.size=k)(hby:i.bytes=bytes)(hzs:z.cells.size=k)
 {l:List α} {v:Value} {w:World} (h:AM k f w v l) (hl:l.length<=maxLen) (hb:l.length*bytes<=140737488355328) (ty:TypeId):
 ∃v' w',(Builtin.append_ #[t,t] ty #[.slice none 0 0,v]).run prog w=.ok v' w'/\Below w.heap.size w w'/\w'.ownsRow w.heap.size e k v' l.length (AF f l):=by
 obtain⟨p,c,rfl,h⟩:=h;by_cases h0:l=[]
 .subst h0;refine⟨.slice none 0 0,w,?_,Below.refl _ _,⟨by simp[AF],.inl ⟨rfl,rfl⟩⟩⟩;exact Zde
 .obtain⟨b,o,rfl,h2⟩:=h.resolve_left h0;have hpos:0<l.length:=List.length_pos_iff.2 h0;obtain⟨g,cap,w',hr,hown,hg,hat,hlt⟩:=run_append_lies (P:=prog) w t ty w.heap.size e i z k bytes ht hi hz hsize hby hzs hk (.slice none 0 0) 0 [] (World.ownsRow_nil w _ _ k) ⟨b,o,none⟩ l.length c (AF f l) (E5 hf l) (GM hk hf h2) Zgz hpos oM (by rw[Nat.zero_add];exact hb) (gF _) w.heap.size rfl;rw[Nat.zero_add]at hr hown;exact⟨_,w',hr,⟨hg.os,hg.tape,hg.output,hg.size,fun j hj=>hg.block j hj (by show some j≠none;simp)⟩,by rw[List.nil_append]at hown;exact hown⟩
theorem Ar{P:Program}{w w':World}{ops:Array Oper}{rest:List Oper}{o:Oper}{a:Act}{Q:Exit->Act->World->Prop}(hgd:o.guard=none)(s x:Operand)(t:TypeId)
 (ho:o.op=.call {callee:=.builtin .append,args:=#[s,x],argTypes:=#[t,t]}) (v v2 v':Value) (hs:a.eval s=v) (hx:a.eval x=v2) (hr:(Builtin.append_ #[t,t] o.type #[v,v2]).run P w=.ok v' w')
 (h:wpList P ops Q rest (a.put o.dst v') w'):wpList P ops Q (o::rest) a w:=
 wpList_plain hgd fun _ hK=>by
  unfold Oper.wp execOp;simp only[ho,resolve,invoke,builtin,Sem.run_bind,Sem.run_pure,Result.andThen_ok,List.map_toArray,List.map_cons,List.map_nil,hs,hx,hr];exact hK _ _ h
theorem Nc:∀x:Ab,∀u∈Cv x,u.oneCell'=true:=fun x u hu=>by simp[Cv]at hu;rcases hu with rfl|rfl|rfl|rfl|rfl|rfl|rfl<;>rfl
theorem Fh:(prog.info? 45).map (fun i=>(i.zero,i.size,i.bytes))=some (some (.agg #[.int .i64 0,.int .i64 0,.int .i64 0,.int .i64 0,.int .i64 0,.int .i64 0,.int .u32 0]),7,56):=kR
theorem Yq{l:List Ab}{v:Value}{w:World}(h:AM 7 Cv w v l)(hl:l.length*56<=140737488355328)(ty:TypeId):
 ∃v' w',(Builtin.append_ #[25,25] ty #[.slice none 0 0,v]).run prog w=.ok v' w'/\Below w.heap.size w w'/\w'.ownsRow w.heap.size 45 7 v' l.length (AF Cv l):=by
 obtain⟨i0,hi0,hz0,hz1,hz2⟩:=info_parts Fh;exact F9 dE Co Nc underlying25 hi0 hz0 hz1 hz2 rfl h mL hl ty


def XD(i:Ab):Bool:=(A3 i.op).d != 0
theorem TU(op:Int)(w:World):Calls prog 54 #[.int .i64 op] w fun e w'=>e=.returned (.bool (Bf op))/\w'=w:=by
 unfold Bf;by_cases h:3<=op
 all_goals
  go_enter func54,ntmps54;exact Zdx
theorem u8ne(a:UInt8)(X:Bool)(h:(a==45)=X):((a.toNat:Int) != 45)= !X:=by
 rw[<-h];have:((a.toNat:Int)==45)=(a==45):=by
  rw[Bool.eq_iff_iff];simp only[beq_iff_eq];constructor
  .intro e;apply UInt8.toNat_inj.1;show a.toNat=45;omega
  .intro e;subst e;rfl
 simp[bne,this]
theorem U8(i:Ab)(w:World):Calls prog 37 #[Bx i] w fun e w'=>e=.returned (.bool (XD i))/\Below w.heap.size w w':=by
 unfold XD;rcases OO i.op (w.alloc (.cells #[.int .i64 i.op,.int .i64 i.d,.int .i64 i.a,.int .i64 i.b,.int .i64 i.c,.int .i64 i.n,.int .u32 i.bits] 45))with⟨hk,hc⟩|⟨hk,a,b,c,d,e,ht,hc⟩
 .rw[Ic i.op hk];obtain⟨op,D,A,B,E,n,bt⟩:=i;unfold Bx;simp only at hc hk |-;have HK:Hid (Calls prog 53 #[.int .i64 op] (w.alloc (.cells #[.int .i64 op,.int .i64 D,.int .i64 A,.int .i64 B,.int .i64 E,.int .i64 n,.int .u32 bt] 45)) fun e w'=>e=.returned (.tuple #[.string ⟨#[]⟩,.bool false])/\w'=w.alloc (.cells #[.int .i64 op,.int .i64 D,.int .i64 A,.int .i64 B,.int .i64 E,.int .i64 n,.int .u32 bt] 45)):=hc;clear hc;go_enter func37,ntmps37;go_wp2_with(go_at_call 53;refine HK.mono ?_;rintro e w1 ⟨rfl,rfl⟩);go_ret;exact⟨rfl,A0 _ _⟩
 .have h1:=u8ne a _ ht.a;obtain⟨X,hX⟩:=gA ((A3 i.op).d)
  rw[hX]at h1 |-;obtain⟨op,D,A,B,E,n,bt⟩:=i;unfold Bx;simp only at hc |-;have HK:Hid (∀w,Calls prog 53 #[.int .i64 op] w fun x w'=>x=.returned (.tuple #[.string ⟨#[a,b,c,d,e]⟩,.bool true])/\w'=w):=hc;have ix:∀w,(Instr.index 9 (.string ⟨#[a,b,c,d,e]⟩) (.int .i64 0)).run prog w=.ok (.int .u8 (a.toNat:Int)) w:=fun w=>by simp[Instr.index,run_underlying underlying9,asIntOf,go_sem];rfl
  clear hc ht hX;go_enter func37,ntmps37;go_wp2_with(go_at_call 53;refine(HK.out _).mono ?_;rintro e w1 ⟨rfl,rfl⟩);go_ret;refine⟨Aa ?_,A0 _ _⟩;first|exact h1|(simp only[h1];rfl)|simp[h1,bne]
structure RRd(w:World)(C Q:Nat)(A B E:Int)(v:World):Prop where
 bel:Below w.heap.size w v
 hC:w.heap.size<=C
 hQ:Q<C
 le:C<=v.heap.size
 g0:v.cell? ⟨Q,0,none⟩=some (.int .i64 A)
 g1:v.cell? ⟨Q,1,none⟩=some (.int .i64 B)
 g2:v.cell? ⟨Q,2,none⟩=some (.int .i64 E)
theorem RRd.next{w:World}{C Q:Nat}{A B E:Int}{v v':World}(h:RRd w C Q A B E v)(k:Below C v v'):RRd w C Q A B E v':=by
 have c1:∀ {a:Addr} {u:Value},a.block<C->v.cell? a=some u->v'.cell? a=some u:=fun ha hu=>(k.cell ha).trans hu;exact⟨h.bel.trans (k.mono h.hC),h.hC,h.hQ,gH h.le k.size,c1 h.hQ h.g0,c1 h.hQ h.g1,c1 h.hQ h.g2⟩
theorem QE(i:Ab)(w:World):Calls prog 72 #[Bx i] w fun e w'=>∃v,e=.returned v/\w'.ownsRow w.heap.size 3 1 v (Ac i (A3 i.op)).length (BH (Ac i (A3 i.op)))/\Below w.heap.size w w':=by
 rcases OO i.op (w.alloc (.cells #[.int .i64 i.op,.int .i64 i.d,.int .i64 i.a,.int .i64 i.b,.int .i64 i.c,.int .i64 i.n,.int .u32 i.bits] 45))with⟨hk,hc⟩|⟨hk,a,b,c,d,e,ht,hc⟩
 .rw[Ic i.op hk,show Ac i ⟨0,0,0,0,0⟩=[] from rfl];obtain⟨op,D,A,B,E,n,bt⟩:=i;unfold Bx;simp only at hc hk |-;have HK:Hid (Calls prog 53 #[.int .i64 op] (w.alloc (.cells #[.int .i64 op,.int .i64 D,.int .i64 A,.int .i64 B,.int .i64 E,.int .i64 n,.int .u32 bt] 45)) fun e w'=>e=.returned (.tuple #[.string ⟨#[]⟩,.bool false])/\w'=w.alloc (.cells #[.int .i64 op,.int .i64 D,.int .i64 A,.int .i64 B,.int .i64 E,.int .i64 n,.int .u32 bt] 45)):=hc;clear hc;go_enter func72,ntmps72;go_wp2_with(go_at_call 53;refine HK.mono ?_;rintro e w1 ⟨rfl,rfl⟩)
  go_loopw [3,7] (fun lv iv wr=>lv=.slice none 0 0/\iv=.int .i64 0/\Below w.heap.size w wr) (fun _ iv _=>0)
  case atStart=>exact⟨rfl,rfl,bel (A0 _ _) (A0 _ _)⟩
  case round=>
   obtain⟨rfl,rfl,hb⟩:=hrel;go_wp2;go_ret;exact⟨_,rfl,World.ownsRow_nil _ _ _ 1,hb⟩
 .rw[I6];have h1:=u8ne b _ ht.b;have h2:=u8ne c _ ht.c;have h3:=u8ne d _ ht.d;obtain⟨i0,hi0,hz0,hz1,hz3⟩:=info_parts Gk;obtain⟨r,hr⟩:=gA (A3 i.op)
  rw[hr]at h1 h2 h3 |-;obtain⟨L0,L1,L2,L3,L4⟩:=r;obtain⟨op,D,A,B,E,n,bt⟩:=i;unfold Bx;simp only at hc h1 h2 h3 |-;obtain⟨R,hR⟩:=gA ((F7 L1 A++F7 L2 B)++F7 L3 E)
  rw[hR];have HR:Hid ((F7 L1 A++F7 L2 B)++F7 L3 E=R):=hR;have HK:Hid (∀w,Calls prog 53 #[.int .i64 op] w fun x w'=>x=.returned (.tuple #[.string ⟨#[a,b,c,d,e]⟩,.bool true])/\w'=w):=hc;clear hc ht hr hR hk;go_enter func72,ntmps72;go_wp2_with(go_at_call 53;refine(HK.out _).mono ?_;rintro e w1 ⟨rfl,rfl⟩);have HF1:Hid (RRd w (w.heap.size+1+1) (w.heap.size+1) A B E ((w.alloc (.cells #[.int .i64 op,.int .i64 D,.int .i64 A,.int .i64 B,.int .i64 E,.int .i64 n,.int .u32 bt] 45)).alloc (.cells #[.int .i64 A,.int .i64 B,.int .i64 E] 3))):=
   ⟨bel (A0 _ _) (A0 _ _),oM,oM,sM,sG,sG,sG⟩
  obtain⟨W,hW⟩:=gA ((w.alloc (.cells #[.int .i64 op,.int .i64 D,.int .i64 A,.int .i64 B,.int .i64 E,.int .i64 n,.int .u32 bt] 45)).alloc (.cells #[.int .i64 A,.int .i64 B,.int .i64 E] 3))
  rw[hW]at HF1 |-;obtain⟨Q,hQ⟩:=gA (w.heap.size+1)
  rw[hQ]at HF1;try rw[hQ]
  clear hW
  go_loopw [3,7] (fun lv iv wr=>RRd w (Q+1) Q A B E wr/\∃ (j:Nat) (l:List Int),j<=3/\iv=.int .i64 j/\l.length<=j/\Hid (wr.ownsRow (Q+1) 3 1 lv l.length (BH l))/\Hid ((j=0->l=[])/\(j=1->l=F7 L1 A)/\(j=2->l=F7 L1 A++F7 L2 B)/\(j=3->l=(F7 L1 A++F7 L2 B)++F7 L3 E))) (fun _ iv _=>3-(intOf iv).toNat)
  case atStart=>exact⟨HF1.out,0,[],oM,rfl,sM,World.ownsRow_nil _ _ _ 1,⟨fun _=>rfl,fun h=>absurd h oM,fun h=>absurd h oM,fun h=>absurd h oM⟩⟩
  case round=>
   clear HF1 HK;obtain⟨hF,j,l,hj,rfl,hll,HO,HL⟩:=hrel;have HF:Hid (RRd w (Q+1) Q A B E wr):=hF;have hGw:=hF.le;have hn1:Q≠wr.heap.size:=oM;obtain rfl|rfl|rfl|rfl:j=0\/j=1\/j=2\/j=3:=oM
   .have g0:=hF.g0;have f0:=kc (A0 wr (.cells #[.int .i64 A] 3)) g0;have hl0:=HL.1 rfl;have ix:∀w,(Instr.index 9 (.string ⟨#[a,b,c,d,e]⟩) (.int .i64 1)).run prog w=.ok (.int .u8 (b.toNat:Int)) w:=fun w=>by simp[Instr.index,run_underlying underlying9,asIntOf,go_sem];rfl
    have hq:=h1;clear hF h1 h2 h3;by_cases hz:L1=0
    .have hz':(!(L1==0))=false:=by simp[hz]
     rw[hz']at hq;have hq2:((b.toNat:Int)==45)=true:=by simpa[bne]using hq
     have HZ:Hid (L1=0):=hz;clear hz;go_wp2;go_roundw
     case rel=>exact⟨HF.out,1,l,oM,by first|rfl|go_num,oM,HO,⟨fun h=>absurd h oM,fun _=>by rw[hl0];unfold F7;simp[HZ.out],fun h=>absurd h oM,fun h=>absurd h oM⟩⟩
     case measure=>simp[intOf]
    .have hz':(!(L1==0))=true:=by simp[hz]
     rw[hz']at hq;have hq2:((b.toNat:Int)==45)=false:=by simpa[bne]using hq
     have HZ:Hid (¬L1=0):=hz;clear hz;go_wp2_with(first
      |(at_builtin;refine wpList_append_own_at _ rfl _ _ 87 rfl (Q+1) 3 i0 _ 1 8 underlying87 hi0 hz0 hz1 hz3 rfl dE _ l.length (BH l) rfl (World.ownsRow.alloc HO.out _) ⟨wr.heap.size,0,none⟩ 1 1 [.int .i64 A] rfl rfl (World.news_of_block (cs:=#[.int .i64 A]) (t:=3) (fr:=(0,0)) (heap_alloc_new wr _)) UL mL oM sO ?_;intro v' w3 hown3 hgrow hnil hat;have HO3:Hid (w3.ownsRow (Q+1) 3 1 v' (l.length+1) (BH l++[.int .i64 A])):=hown3;have HB3:Hid (Below (Q+1) wr w3):=(Below.alloc (Below.refl _ _) hGw _).grown hgrow sO (fun q e=>(HO.lt q e).1);clear hown3 hgrow hnil hat))
     go_roundw
     case rel=>exact⟨HF.next HB3.out,1,l++[A],oM,by first|rfl|go_num,sO,by show _;rw[List.length_append,Dj];exact HO3.out,⟨fun h=>absurd h oM,fun _=>by rw[hl0,show F7 L1 A=[A]from if_neg HZ.out];try rfl,fun h=>absurd h oM,fun h=>absurd h oM⟩⟩
     case measure=>simp[intOf]
   .have g0:=hF.g1;have f0:=kc (A0 wr (.cells #[.int .i64 B] 3)) g0;have hl0:=HL.2.1 rfl;have ix:∀w,(Instr.index 9 (.string ⟨#[a,b,c,d,e]⟩) (.int .i64 2)).run prog w=.ok (.int .u8 (c.toNat:Int)) w:=fun w=>by simp[Instr.index,run_underlying underlying9,asIntOf,go_sem];rfl
    have hq:=h2;clear hF h1 h2 h3;by_cases hz:L2=0
    .have hz':(!(L2==0))=false:=by simp[hz]
     rw[hz']at hq;have hq2:((c.toNat:Int)==45)=true:=by simpa[bne]using hq
     have HZ:Hid (L2=0):=hz;clear hz;go_wp2;go_roundw
     case rel=>exact⟨HF.out,2,l,oM,by first|rfl|go_num,oM,HO,⟨fun h=>absurd h oM,fun h=>absurd h oM,fun _=>by rw[hl0];unfold F7;simp[HZ.out],fun h=>absurd h oM⟩⟩
     case measure=>simp[intOf]
    .have hz':(!(L2==0))=true:=by simp[hz]
     rw[hz']at hq;have hq2:((c.toNat:Int)==45)=false:=by simpa[bne]using hq
     have HZ:Hid (¬L2=0):=hz;clear hz;go_wp2_with(first
      |(at_builtin;refine wpList_append_own_at _ rfl _ _ 87 rfl (Q+1) 3 i0 _ 1 8 underlying87 hi0 hz0 hz1 hz3 rfl dE _ l.length (BH l) rfl (World.ownsRow.alloc HO.out _) ⟨wr.heap.size,0,none⟩ 1 1 [.int .i64 B] rfl rfl (World.news_of_block (cs:=#[.int .i64 B]) (t:=3) (fr:=(0,0)) (heap_alloc_new wr _)) UL mL oM sO ?_;intro v' w3 hown3 hgrow hnil hat;have HO3:Hid (w3.ownsRow (Q+1) 3 1 v' (l.length+1) (BH l++[.int .i64 B])):=hown3;have HB3:Hid (Below (Q+1) wr w3):=(Below.alloc (Below.refl _ _) hGw _).grown hgrow sO (fun q e=>(HO.lt q e).1);clear hown3 hgrow hnil hat))
     go_roundw
     case rel=>exact⟨HF.next HB3.out,2,l++[B],oM,by first|rfl|go_num,sO,by show _;rw[List.length_append,Dj];exact HO3.out,⟨fun h=>absurd h oM,fun h=>absurd h oM,fun _=>by rw[hl0,show F7 L2 B=[B]from if_neg HZ.out];try rfl,fun h=>absurd h oM⟩⟩
     case measure=>simp[intOf]
   .have g0:=hF.g2;have f0:=kc (A0 wr (.cells #[.int .i64 E] 3)) g0;have hl0:=HL.2.2.1 rfl;have ix:∀w,(Instr.index 9 (.string ⟨#[a,b,c,d,e]⟩) (.int .i64 3)).run prog w=.ok (.int .u8 (d.toNat:Int)) w:=fun w=>by simp[Instr.index,run_underlying underlying9,asIntOf,go_sem];rfl
    have hq:=h3;clear hF h1 h2 h3;by_cases hz:L3=0
    .have hz':(!(L3==0))=false:=by simp[hz]
     rw[hz']at hq;have hq2:((d.toNat:Int)==45)=true:=by simpa[bne]using hq
     have HZ:Hid (L3=0):=hz;clear hz;go_wp2;go_roundw
     case rel=>exact⟨HF.out,3,l,oM,by first|rfl|go_num,oM,HO,⟨fun h=>absurd h oM,fun h=>absurd h oM,fun h=>absurd h oM,fun _=>by rw[hl0];unfold F7;simp[HZ.out]⟩⟩
     case measure=>simp[intOf]
    .have hz':(!(L3==0))=true:=by simp[hz]
     rw[hz']at hq;have hq2:((d.toNat:Int)==45)=false:=by simpa[bne]using hq
     have HZ:Hid (¬L3=0):=hz;clear hz;go_wp2_with(first
      |(at_builtin;refine wpList_append_own_at _ rfl _ _ 87 rfl (Q+1) 3 i0 _ 1 8 underlying87 hi0 hz0 hz1 hz3 rfl dE _ l.length (BH l) rfl (World.ownsRow.alloc HO.out _) ⟨wr.heap.size,0,none⟩ 1 1 [.int .i64 E] rfl rfl (World.news_of_block (cs:=#[.int .i64 E]) (t:=3) (fr:=(0,0)) (heap_alloc_new wr _)) UL mL oM sO ?_;intro v' w3 hown3 hgrow hnil hat;have HO3:Hid (w3.ownsRow (Q+1) 3 1 v' (l.length+1) (BH l++[.int .i64 E])):=hown3;have HB3:Hid (Below (Q+1) wr w3):=(Below.alloc (Below.refl _ _) hGw _).grown hgrow sO (fun q e=>(HO.lt q e).1);clear hown3 hgrow hnil hat))
     go_roundw
     case rel=>exact⟨HF.next HB3.out,3,l++[E],oM,by first|rfl|go_num,sO,by show _;rw[List.length_append,Dj];exact HO3.out,⟨fun h=>absurd h oM,fun h=>absurd h oM,fun h=>absurd h oM,fun _=>by rw[hl0,show F7 L3 E=[E]from if_neg HZ.out];try rfl⟩⟩
     case measure=>simp[intOf]
   .exact Zes
theorem Ib(t:Ty)(p:Option Addr)(n c:Nat)(hn:n<=140737488351232)(w:World):Calls prog 46 #[Er t,.slice p n c] w fun e w'=>e=.returned (.bool (AC t n))/\Below w.heap.size w w':=by
 obtain⟨K,P⟩:=t;unfold AC Er Ay;simp only;by_cases h1:K=1
 .subst h1;rw[if_pos (Or.inl rfl)];exact Zer
 .by_cases h2:K=2
  .subst h2;rw[if_pos (Or.inr rfl)];exact Zer
  .rw[if_neg (fun e=>e.elim h1 h2)];have h1':(K==1)=false:=by simpa using h1
   have h2':(K==2)=false:=by simpa using h2
   by_cases h3:K=3
   .subst h3;rw[if_pos rfl];by_cases h:0<=P
    all_goals
     go_enter func46,ntmps46;go_wp2;go_ret;exact⟨Aa (by simp[h];try omega),A0 _ _⟩
   .rw[if_neg h3];have h3':(K==3)=false:=by simpa using h3
    clear h1 h2 h3;exact Zer
theorem OV(v0 v1 v2 v3:Value)(c:Cd)(hk:AZ c)(n:Int)(w:World)(hv:CH w v0 v1 v2 v3 c):
 Calls prog 116 #[.agg #[v0,v1,v2,v3],.int .i64 n] w fun e w'=>e=.returned (.tuple #[Er (A5 c.regs n),.bool (Ay n c.regs.length)])/\Below w.heap.size w w':=by
 have HB:=hk.regsL;have hr:=hv.regs;obtain⟨p,q,rfl,hrr⟩:=hv.regs;clear hv hk;by_cases h0:0<=n
 .by_cases h1:n<(c.regs.length:Int)
  .obtain⟨k,rfl⟩:∃k:Nat,n=(k:Int):=⟨n.toNat,oM⟩
   have hk:k<c.regs.length:=oM;have e:A5 c.regs (k:Int)=c.regs[k]:=FK rfl hk;have e2:Ay (k:Int) c.regs.length=true:=Bq.2 ⟨oM,oM⟩;rw[e,e2];obtain⟨lb,lo,rfl,hc⟩:=hr.at hk;obtain⟨⟨K,P⟩,ht⟩:∃t:Ty,c.regs[k]=t:=⟨_,rfl⟩
   rw[ht]at hc |-;have y0:w.cell? ⟨lb,lo+k*2,none⟩=some (.int .i64 K):=hc.at 0 rfl;have y1:w.cell? ⟨lb,lo+k*2+1,none⟩=some (.int .i64 P):=hc.at 1 rfl;have hlb:lb≠w.heap.size:=by have:=A6 y0;simp only at this;omega
   obtain⟨N,hN⟩:=gA (c.regs.length)
   rw[hN]at hk HB |-;clear hr hrr hc ht e e2 h0 h1 hN;have g0:∀o o',((w.alloc o).alloc o').cell? ⟨lb,lo+k*2,none⟩=some (.int .i64 K):=fun o o'=>kc (bel (A0 _ _) (A0 _ _)) y0;have g1:∀o o',((w.alloc o).alloc o').cell? ⟨lb,lo+k*2+1,none⟩=some (.int .i64 P):=fun o o'=>kc (bel (A0 _ _) (A0 _ _)) y1;unfold Er;go_enter func116,ntmps116;go_wp2;refine bodyPost_ret Zgn rfl ?_;exact UW
  .have e2:Ay n c.regs.length=false:=by unfold Ay;simp;omega
   have e:A5 c.regs n=⟨0,0⟩:=by unfold A5;rw[e2];rfl
   rw[e,e2];obtain⟨N,hN⟩:=gA (c.regs.length)
   rw[hN]at h1 HB |-;clear hr hrr e e2 hN;unfold Er;go_enter func116,ntmps116;go_wp2;refine bodyPost_ret Zgn rfl ?_;exact UW
 .have e2:Ay n c.regs.length=false:=by unfold Ay;simp;omega
  have e:A5 c.regs n=⟨0,0⟩:=by unfold A5;rw[e2];rfl
  rw[e,e2];obtain⟨N,hN⟩:=gA (c.regs.length)
  rw[hN]at HB |-;clear hr hrr e e2 hN;unfold Er;go_enter func116,ntmps116;go_wp2;refine bodyPost_ret Zgn rfl ?_;exact UW
def GW(b:Int)(t d:Ty):Bool:=
 if b=110 then t.kind==1 else if b=119 then t.kind==2 else if b=118 then t.kind==3 else if b=100 then t.kind==1||t.kind==3
 else if b=120 then t.kind==1||decide (t=d)else if b=99 then decide (t=d)||(t.kind==1&&d.kind==3)else true
def Aw(rs:List Ty)(b n:Int)(d:Ty):Bool:=if b=45 then n==0 else Ay n rs.length&&GW b (A5 rs n) d
theorem FO(v0 v1 v2 v3:Value)(c:Cd)(hk:AZ c)(b n:Int)(d:Ty)(hb:b=45\/b=110\/b=119\/b=118\/b=100\/b=120\/b=99\/b=97)(w:World)(hv:CH w v0 v1 v2 v3 c):
 Calls prog 95 #[.agg #[v0,v1,v2,v3],.int .u8 b,.int .i64 n,Er d] w fun e w'=>e=.returned (.bool (Aw c.regs b n d))/\Below w.heap.size w w':=by
 have KT:Hid (∀v,Below w.heap.size w v->Calls prog 116 #[.agg #[v0,v1,v2,v3],.int .i64 n] v fun e w'=>e=.returned (.tuple #[Er (A5 c.regs n),.bool (Ay n c.regs.length)])/\Below v.heap.size v w'):=fun v h=>OV v0 v1 v2 v3 c hk n v (hv.below h);unfold Aw;obtain⟨X,hX⟩:=gA (Ay n c.regs.length)
 obtain⟨⟨K,P⟩,ht⟩:∃t:Ty,A5 c.regs n=t:=⟨_,rfl⟩
 rw[hX,ht]at KT |-;clear hX ht hv hk;obtain⟨dk,dp⟩:=d;unfold Er at KT |-;simp only at KT |-;by_cases h45:b=45
 .subst h45;rw[if_pos rfl];go_enter func95,ntmps95;go_wp2;go_ret;exact UW
 .rw[if_neg h45];have h45':(b==45)=false:=by simpa using h45
  cases X
  .rw[Bool.false_and];clear hb h45;go_enter func95,ntmps95;go_wp2_with(go_at_call 116;(with_reducible refine(KT.out _ (bel (A0 _ _) (A0 _ _))).mono ?_);rintro e w1 ⟨rfl,hb1⟩;have f0:∀o,(w1.alloc o).cell? ⟨w.heap.size+1,0,none⟩=some (.int .i64 dk):=(fun o=>kc (bel hb1 (A0 _ _)) sG);have f1:∀o,(w1.alloc o).cell? ⟨w.heap.size+1,1,none⟩=some (.int .i64 dp):=(fun o=>kc (bel hb1 (A0 _ _)) sG);have HB1:Hid _:=hb1;clear hb1);go_ret;exact⟨rfl,bel (bel (A0 _ _) (A0 _ _)) (bel HB1.out (A0 _ _))⟩
  .rw[Bool.true_and];rcases hb with rfl|rfl|rfl|rfl|rfl|rfl|rfl|rfl
   .exact absurd rfl h45
   all_goals clear h45 h45'
   all_goals
    cases h1:(K==1)
    all_goals
     by_cases hkd:K=dk
     .subst hkd;by_cases hpd:P=dp
      .subst hpd;go_enter func95,ntmps95;go_wp2_with(go_at_call 116;(with_reducible refine(KT.out _ (bel (A0 _ _) (A0 _ _))).mono ?_);rintro e w1 ⟨rfl,hb1⟩;have f0:∀o,(w1.alloc o).cell? ⟨w.heap.size+1,0,none⟩=some (.int .i64 K):=(fun o=>kc (bel hb1 (A0 _ _)) sG);have f1:∀o,(w1.alloc o).cell? ⟨w.heap.size+1,1,none⟩=some (.int .i64 P):=(fun o=>kc (bel hb1 (A0 _ _)) sG);have HB1:Hid _:=hb1;clear hb1);exact Zdl
      .go_enter func95,ntmps95;go_wp2_with(go_at_call 116;(with_reducible refine(KT.out _ (bel (A0 _ _) (A0 _ _))).mono ?_);rintro e w1 ⟨rfl,hb1⟩;have f0:∀o,(w1.alloc o).cell? ⟨w.heap.size+1,0,none⟩=some (.int .i64 K):=(fun o=>kc (bel hb1 (A0 _ _)) sG);have f1:∀o,(w1.alloc o).cell? ⟨w.heap.size+1,1,none⟩=some (.int .i64 dp):=(fun o=>kc (bel hb1 (A0 _ _)) sG);have HB1:Hid _:=hb1;clear hb1);exact Zdl
     .go_enter func95,ntmps95;go_wp2_with(go_at_call 116;(with_reducible refine(KT.out _ (bel (A0 _ _) (A0 _ _))).mono ?_);rintro e w1 ⟨rfl,hb1⟩;have f0:∀o,(w1.alloc o).cell? ⟨w.heap.size+1,0,none⟩=some (.int .i64 dk):=(fun o=>kc (bel hb1 (A0 _ _)) sG);have f1:∀o,(w1.alloc o).cell? ⟨w.heap.size+1,1,none⟩=some (.int .i64 dp):=(fun o=>kc (bel hb1 (A0 _ _)) sG);have HB1:Hid _:=hb1;clear hb1);exact Zdl
theorem EH(a:Int)(h0:0<=a)(h1:a<4294967296)(w:World):Calls prog 70 #[.int .u32 a] w fun e w'=>e=.returned (.bool (CV a))/\Below w.heap.size w w':=by
 have hc:CV a=(Ae a==a):=by unfold CV Ae;cases nan a<;>rw[Bool.eq_iff_iff]<;>simp
 rw[hc];have HK:Hid (∀w,Calls prog 94 #[.int .i64 a] w fun e w'=>e=.returned (.int .i64 (Ae a))/\Below w.heap.size w w'):=Gt a h0 h1;have hw:IntKind.i64.wrap a=a:=by rw[IntKind.wrap_i64];omega
 clear hc;obtain⟨x,hx⟩:=gA (Ae a)
 rw[hx]at HK |-;clear hx;go_enter func70,ntmps70;go_wp2_with(go_at_call 94;refine(HK.out _).mono ?_;rintro e w1 ⟨rfl,hb1⟩;have HB1:Hid _:=hb1;clear hb1);go_ret;exact⟨rfl,HB1.out⟩
theorem Nw(s:Sl)(h0:0<=s.bits)(h1:s.bits<4294967296)(p:Option Addr)(n c:Nat)(hn:n<=140737488351232)(w:World):
 Calls prog 47 #[Sv s,.slice p n c] w fun e w'=>e=.returned (.bool (Bo s n))/\Below w.heap.size w w':=by
 have HK:Hid (∀w,Calls prog 70 #[.int .u32 s.bits] w fun e w'=>e=.returned (.bool (CV s.bits))/\Below w.heap.size w w'):=EH s.bits h0 h1;have HT:Hid (∀w,Calls prog 46 #[Er s.ty,.slice p n c] w fun e w'=>e=.returned (.bool (AC s.ty n))/\Below w.heap.size w w'):=Ib s.ty p n c hn;obtain⟨⟨K,P⟩,Q,B,I⟩:=s;unfold Bo Fv Sv DS;unfold Er at HT;simp only at HK HT h0 h1 |-;obtain⟨X,hX⟩:=gA (CV B)
 obtain⟨Y,hY⟩:=gA (AC ⟨K,P⟩ n)
 rw[hX]at HK |-;rw[hY]at HT |-;clear hX hY;cases Y
 .rw[Bool.false_and];exact Zbn
 .rw[Bool.true_and];by_cases h2:K=2
  .subst h2;rw[if_pos rfl];cases hb:(B==0)
   .have hb':(B != 0)=true:=by simpa using hb
    exact Zbo
   .by_cases hi:0<=I
    all_goals
     exact Zbo
  .rw[if_neg h2];have h2':(K==2)=false:=by simpa using h2
   clear h2;cases hi:(I==0)
   all_goals
    exact Zbn
instance:DecidableEq Cr:=fun a b=>by
 cases a;cases b
 simp only[Cr.mk.injEq];exact inferInstanceAs (Decidable (_/\_/\_))
theorem Ef{P:Program}{w:World}{ops:Array Oper}{o:Oper}{a:Act}{K:Act->World->Prop}{Q:Exit->Act->World->Prop}{E:Prop}(hgd:o.guard=none)(t:TypeId)(x y:Operand)(yt:TypeId)
 (ho:o.op=.binOp .neq t x y yt) (v1 v2 v:Value) (hx:a.eval x=v1) (hy:a.eval y=v2) (hg:(eqGuard .neq t x y v1 v2).run P w=.ok () w) (hr:(binOp .neq t v1 v2).run P w=.ok v w) (h:K (a.put o.dst v) w):
 if Region.wanted o (yielded ops a.tmps)=true then Oper.wp P o a w K Q else E:=by
 have hw:Region.wanted o (yielded ops a.tmps)=true:=by simp[Region.wanted,hgd]
 rw[if_pos hw];unfold Oper.wp execOp;simp only[ho,Sem.run_bind,Sem.run_pure,Result.andThen_ok,hx,hy,hg,hr];exact h
theorem Zi(a b:Cr)(w:World):(binOp .neq 53 (pv a) (pv b)).run prog w=.ok (.bool (!decide (a=b))) w:=by
 obtain⟨x0,x1,x2⟩:=a;obtain⟨y0,y1,y2⟩:=b;unfold pv;by_cases h0:x0=y0
 .subst h0;by_cases h1:x1=y1
  .subst h1;by_cases h2:x2=y2
   .subst h2;go_simp
   .go_simp
  .go_simp
 .go_simp;exact fun e=>absurd (Go.WideShapes.bytes_inj (by rwa[ByteArray.toList_eq,ByteArray.toList_eq]at e)) h0
theorem Ru(p q:Operand)(a b:Cr)(w:World):(eqGuard .neq 53 p q (pv a) (pv b)).run prog w=.ok () w:=by
 obtain⟨x0,x1,x2⟩:=a;obtain⟨y0,y1,y2⟩:=b;unfold pv;simp[eqGuard,go_sem]
theorem neq_Ty(a b:Ty)(w:World):(binOp .neq 47 (Er a) (Er b)).run prog w=.ok (.bool (!decide (a=b))) w:=by
 obtain⟨x0,x1⟩:=a;obtain⟨y0,y1⟩:=b;unfold Er;by_cases h0:x0=y0
 .subst h0;by_cases h1:x1=y1
  .subst h1;go_simp
  .go_simp
 .go_simp
theorem VH(p q:Operand)(a b:Ty)(w:World):(eqGuard .neq 47 p q (Er a) (Er b)).run prog w=.ok () w:=by
 obtain⟨x0,x1⟩:=a;obtain⟨y0,y1⟩:=b;unfold Er;simp[eqGuard,go_sem]
theorem neq_Sl(a b:Sl)(w:World):(binOp .neq 49 (Sv a) (Sv b)).run prog w=.ok (.bool (!decide (a=b))) w:=by
 obtain⟨⟨x0,x1⟩,x2,x3,x4⟩:=a;obtain⟨⟨y0,y1⟩,y2,y3,y4⟩:=b;unfold Sv;by_cases h0:x0=y0
 .subst h0;by_cases h1:x1=y1
  .subst h1;by_cases h2:x2=y2
   .subst h2;by_cases h3:x3=y3
    .subst h3;by_cases h4:x4=y4
     .subst h4;go_simp
     .go_simp
    .go_simp
   .go_simp
  .go_simp
 .go_simp
theorem VG(p q:Operand)(a b:Sl)(w:World):(eqGuard .neq 49 p q (Sv a) (Sv b)).run prog w=.ok () w:=by
 obtain⟨⟨x0,x1⟩,x2,x3,x4⟩:=a;obtain⟨⟨y0,y1⟩,y2,y3,y4⟩:=b;unfold Sv;simp[eqGuard,go_sem]
theorem RG(a b:Ab)(w:World):(binOp .neq 45 (Bx a) (Bx b)).run prog w=.ok (.bool (!decide (a=b))) w:=by
 obtain⟨x0,x1,x2,x3,x4,x5,x6⟩:=a;obtain⟨y0,y1,y2,y3,y4,y5,y6⟩:=b;unfold Bx;by_cases h0:x0=y0
 .subst h0;by_cases h1:x1=y1
  .subst h1;by_cases h2:x2=y2
   .subst h2;by_cases h3:x3=y3
    .subst h3;by_cases h4:x4=y4
     .subst h4;by_cases h5:x5=y5
      .subst h5;by_cases h6:x6=y6
       .subst h6;go_simp
       .go_simp
      .go_simp
     .go_simp
    .go_simp
   .go_simp
  .go_simp
 .go_simp
theorem Jw(p q:Operand)(a b:Ab)(w:World):(eqGuard .neq 45 p q (Bx a) (Bx b)).run prog w=.ok () w:=by
 obtain⟨x0,x1,x2,x3,x4,x5,x6⟩:=a;obtain⟨y0,y1,y2,y3,y4,y5,y6⟩:=b;unfold Bx;simp[eqGuard,go_sem]
theorem I1{B:Nat}{V:World}{e t:TypeId}{z:Value}{sz by':Nat}(ht:prog.underlying t=some (.slice e))(hi:(prog.info? e).map (fun i=>(i.zero,i.size,i.bytes))=some (some z,sz,by'))(hzs:z.cells.size=sz)(hsz:0<sz){p:Option Addr}{n q:Nat}{xs:List Value}(h:V.ownsRow B e sz (.slice p n q) n xs)(hB:B<=V.heap.size)
 (cs:Array Value) (hcs:cs.size=sz) (h1:∀u∈cs.toList,u.oneCell'=true) (hn:n+1<=maxLen) (hb:(n+1)*by'<=140737488355328) (ty:TypeId):
 ∃g c' w',(Builtin.append_ #[t,t] ty #[.slice p n q,.slice (some ⟨V.heap.size,0,none⟩) 1 1]).run prog (V.alloc (.cells cs e))=.ok (.slice (some ⟨g,0,none⟩) (n+1) c') w'/\Below B V w'/\w'.ownsRow B e sz (.slice (some ⟨g,0,none⟩) (n+1) c') (n+1) (xs++cs.toList)/\(∀b,b<V.heap.size->(Value.slice p n q).ownBlock≠some b->w'.heap[b]? =V.heap[b]?)/\((Value.slice p n q).ownBlock=some g\/V.heap.size<g):=by
 obtain⟨i0,hi0,hz0,hz1,hz2⟩:=info_parts hi;have hb0:Below V.heap.size V (V.alloc (.cells cs e)):=A0 _ _;have hs:(V.alloc (.cells cs e)).heap.size=V.heap.size+1:=sM;have h0:=Au h hb0;obtain⟨g,cap,w3,hr,hown,hgrow,hat,hlt⟩:=run_append_lies (P:=prog) (V.alloc (.cells cs e)) t ty B e i0 _ sz by' ht hi0 hz0 hz1 hz2 hzs hsz (.slice p n q) n xs h0 ⟨V.heap.size,0,none⟩ 1 1 cs.toList (by simp[hcs])
  (World.news_of_block (cs:=cs) (t:=e) (fr:=(0,0)) (heap_alloc_new V _)) h1 dE hn hb oM _ rfl
 exact Zdq
section
open Go.ChangeShapes Go.WideShapes Go.ChangeAt Go.RowKit
theorem JM:Tryz.prog.cellsOf 45=7:=kR
theorem J3:Tryz.prog.cellsOf 53=3:=kR
theorem JO:Tryz.prog.cellsOf 47=2:=kR
theorem JN:Tryz.prog.cellsOf 49=5:=kR
theorem PC:Tryz.prog.cellsOf 27=4:=kR
theorem Pz:Tryz.prog.bytesOf 45=56:=kR
theorem NZ:Tryz.prog.bytesOf 53=32:=kR
theorem PB:Tryz.prog.bytesOf 47=16:=kR
theorem PA:Tryz.prog.bytesOf 49=32:=kR
theorem G6{H:Type}{P:Program}{e:TypeId}:∀ {l:List (DataW H)} {d:DataW H},d∈l->∀n∈d.weights P e,n∈DataW.weightsAll P e l
 |[],d,h,n,hn=>by cases h
 |x::r,d,h,n,hn=>by
  simp only[DataW.weightsAll,List.mem_append];rcases List.mem_cons.1 h with rfl|h
  .exact .inl hn
  .exact .inr (G6 h n hn)
section
variable {H : Type} {enc : TypeId × Value -> H} {w : World} {base : Nat} {held : Bool}
def InsOk(i:Ab):Prop:=0<=i.bits/\i.bits<4294967296
theorem Wg{fuel:Nat}{cs:List Value}{x:DataW H×List MemPlace}(h:DataW.trod enc Tryz.prog w base (fun _=>true) held fuel 45 cs=some x):∃i:Ab,cs=Cv i/\InsOk i:=by
 obtain⟨xs,n,hfn,hx,hl,hxl,hf⟩:=DataW.trod_struct Tryz.underlying45 h;rw[JM]at hl
 match cs,hl with
 |[v0,v1,v2,v3,v4,v5,v6],_=>
 match xs,hxl with
 |[y0,y1,y2,y3,y4,y5,y6],_=>
  have e0:DataW.trod enc Tryz.prog w base (fun _=>true) held n 3 [v0]=some y0:=hf 0 _ rfl;have e1:DataW.trod enc Tryz.prog w base (fun _=>true) held n 3 [v1]=some y1:=hf 1 _ rfl;have e2:DataW.trod enc Tryz.prog w base (fun _=>true) held n 3 [v2]=some y2:=hf 2 _ rfl;have e3:DataW.trod enc Tryz.prog w base (fun _=>true) held n 3 [v3]=some y3:=hf 3 _ rfl;have e4:DataW.trod enc Tryz.prog w base (fun _=>true) held n 3 [v4]=some y4:=hf 4 _ rfl;have e5:DataW.trod enc Tryz.prog w base (fun _=>true) held n 3 [v5]=some y5:=hf 5 _ rfl;have e6:DataW.trod enc Tryz.prog w base (fun _=>true) held n 43 [v6]=some y6:=hf 6 _ rfl;obtain⟨a0,c0,-,w0⟩:=DataW.trod_int Tryz.underlying3 e0;obtain⟨a1,c1,-,w1⟩:=DataW.trod_int Tryz.underlying3 e1;obtain⟨a2,c2,-,w2⟩:=DataW.trod_int Tryz.underlying3 e2;obtain⟨a3,c3,-,w3⟩:=DataW.trod_int Tryz.underlying3 e3;obtain⟨a4,c4,-,w4⟩:=DataW.trod_int Tryz.underlying3 e4;obtain⟨a5,c5,-,w5⟩:=DataW.trod_int Tryz.underlying3 e5;obtain⟨a6,c6,-,w6⟩:=DataW.trod_int Tryz.underlying43 e6;simp only[List.cons.injEq,and_true]at c0 c1 c2 c3 c4 c5 c6;subst c0 c1 c2 c3 c4 c5 c6;exact⟨⟨a0,a1,a2,a3,a4,a5,a6⟩,rfl,(bounds_u32 w6).1,Int.lt_add_one_of_le (bounds_u32 w6).2⟩
theorem Wh{fuel:Nat}{cs:List Value}{x:DataW H×List MemPlace}(h:DataW.trod enc Tryz.prog w base (fun _=>true) held fuel 53 cs=some x)(hw:∀n∈x.1.weights Tryz.prog 53,n<=reachBytes):
 ∃p:Cr,cs=AX p/\p.name.size<=140737488351232:=by
 obtain⟨xs,n,hfn,hx,hl,hxl,hf⟩:=DataW.trod_struct Tryz.underlying53 h;rw[J3]at hl
 match cs,hl with
 |[v0,v1,v2],_=>
 match xs,hxl with
 |[y0,y1,y2],_=>
  have e0:DataW.trod enc Tryz.prog w base (fun _=>true) held n 9 [v0]=some y0:=hf 0 _ rfl;have e1:DataW.trod enc Tryz.prog w base (fun _=>true) held n 3 [v1]=some y1:=hf 1 _ rfl;have e2:DataW.trod enc Tryz.prog w base (fun _=>true) held n 3 [v2]=some y2:=hf 2 _ rfl;obtain⟨a0,c0,hd0,w0⟩:=DataW.trod_string Tryz.underlying9 e0;obtain⟨a1,c1,hd1,w1⟩:=DataW.trod_int Tryz.underlying3 e1;obtain⟨a2,c2,hd2,w2⟩:=DataW.trod_int Tryz.underlying3 e2;simp only[List.cons.injEq,and_true]at c0 c1 c2;subst c0 c1 c2;subst hx;have hws:∀ (j:Nat) (t:TypeId) (d:DataW H),[9,3,3][j]? =some t->[y0.1,y1.1,y2.1][j]? =some d->∀n∈d.weights Tryz.prog t,n<=reachBytes:=fun j t d ht hd n hn=>by
   refine hw n ?_;show n∈DataW.weights Tryz.prog 53 (.agg [y0.1,y1.1,y2.1]);rw[DataW.weights,Tryz.underlying53];exact DataW.weights_mem_each (ts:=[9,3,3]) ht hd n hn
  have s1:a0.size<=140737488351232:=by
   have:=hws 0 _ _ rfl rfl a0.data.toList.length (by rw[hd0];simp[DataW.weights]);simpa[reachBytes]using this
  exact⟨⟨a0,a1,a2⟩,rfl,s1⟩
theorem RQ{fuel:Nat}{cs:List Value}{x:DataW H×List MemPlace}(h:DataW.trod enc Tryz.prog w base (fun _=>true) held fuel 47 cs=some x):∃t:Ty,cs=Hl t/\True:=by
 obtain⟨xs,n,hfn,hx,hl,hxl,hf⟩:=DataW.trod_struct Tryz.underlying47 h;rw[JO]at hl
 match cs,hl with
 |[v0,v1],_=>
 match xs,hxl with
 |[y0,y1],_=>
  have e0:DataW.trod enc Tryz.prog w base (fun _=>true) held n 3 [v0]=some y0:=hf 0 _ rfl;have e1:DataW.trod enc Tryz.prog w base (fun _=>true) held n 3 [v1]=some y1:=hf 1 _ rfl;obtain⟨a0,c0,-,w0⟩:=DataW.trod_int Tryz.underlying3 e0;obtain⟨a1,c1,-,w1⟩:=DataW.trod_int Tryz.underlying3 e1;simp only[List.cons.injEq,and_true]at c0 c1;subst c0 c1;exact⟨⟨a0,a1⟩,rfl,trivial⟩
def SlOk(s:Sl):Prop:=0<=s.bits/\s.bits<4294967296
theorem Zs{fuel:Nat}{cs:List Value}{x:DataW H×List MemPlace}(h:DataW.trod enc Tryz.prog w base (fun _=>true) held fuel 49 cs=some x):∃s:Sl,cs=Lz s/\SlOk s:=by
 obtain⟨xs,n,hfn,hx,hl,hxl,hf⟩:=DataW.trod_struct Tryz.underlying49 h;rw[JN]at hl
 match cs,hl with
 |[v0,v1,v2,v3,v4],_=>
 match xs,hxl with
 |[y0,y1,y2,y3],_=>
  have e0:DataW.trod enc Tryz.prog w base (fun _=>true) held n 47 [v0,v1]=some y0:=hf 0 _ rfl;have e1:DataW.trod enc Tryz.prog w base (fun _=>true) held n 4 [v2]=some y1:=hf 1 _ rfl;have e2:DataW.trod enc Tryz.prog w base (fun _=>true) held n 43 [v3]=some y2:=hf 2 _ rfl;have e3:DataW.trod enc Tryz.prog w base (fun _=>true) held n 3 [v4]=some y3:=hf 3 _ rfl;obtain⟨t,ht,-⟩:=RQ e0;obtain⟨a1,c1,-⟩:=DataW.trod_bool Tryz.underlying4 e1;obtain⟨a2,c2,-,w2⟩:=DataW.trod_int Tryz.underlying43 e2;obtain⟨a3,c3,-,w3⟩:=DataW.trod_int Tryz.underlying3 e3;obtain⟨K,P⟩:=t;simp only[Hl,List.cons.injEq,and_true]at ht c1 c2 c3;obtain⟨rfl,rfl⟩:=ht;subst c1 c2 c3;exact⟨⟨⟨K,P⟩,a1,a2,a3⟩,rfl,(bounds_u32 w2).1,Int.lt_add_one_of_le (bounds_u32 w2).2⟩
theorem GJ{α:Type}[Inhabited α]{f:α->List Value}{k bytes:Nat}{t e:TypeId}{Good:α->Prop}(hk:0<k)(hf:∀x,(f x).length=k)(ht:Tryz.prog.underlying t=some (.slice e))(hce:Tryz.prog.cellsOf e=k)(hby:Tryz.prog.bytesOf e=bytes)(hb0:0<bytes)
 (hop:∀ {fuel:Nat} {cs:List Value} {x:DataW H×List MemPlace},DataW.trod enc Tryz.prog w base (fun _=>true) held fuel e cs=some x->(∀n∈x.1.weights Tryz.prog e,n<=reachBytes)->∃a:α,cs=f a/\Good a)
 {fuel:Nat} {v:Value} {x:DataW H×List MemPlace} (h:DataW.trod enc Tryz.prog w base (fun _=>true) held fuel t [v]=some x) (hw:∀n∈x.1.weights Tryz.prog t,n<=reachBytes):
 ∃l:List α,AM k f w v l/\l.length*bytes<=140737488351232/\∀a∈l,Good a:=by
 rcases DataW.trod_slice ht h with⟨hcs,hx⟩|⟨a,len,cap,elems,rest,m,hm,hcs,hx,_,hl,_,hel,hread,_,_⟩
 .simp only[List.cons.injEq,and_true]at hcs;subst hcs;exact⟨[],⟨none,0,rfl,.inl rfl⟩,sM,fun a h=>by cases h⟩
 .simp only[List.cons.injEq,and_true]at hcs;subst hcs;subst hx;have Bb:∀i,i<len->∃q:α,(∀j,j<k->w.cell? (a.add (i*k+j))=(f q)[j]?)/\Good q:=by
   intro i hi;have h1:=hread i hi;rw[hce]at h1;have hie:i<elems.length:=oM;rw[gB hie]at h1;obtain⟨cs',h2,h3⟩:=Option.bind_eq_some_iff.1 h1;obtain⟨_,hlen3,hcell⟩:=World.cells?_some h2;obtain⟨q,hcs,hok⟩:=hop h3 (fun n hn=>hw n (by
    rw[DataW.weights,ht]
    exact List.mem_cons_of_mem _ (List.mem_append_left _ (G6 (List.mem_map.2 ⟨elems[i],gD hie,rfl⟩) n hn))))
   refine⟨q,fun j hj=>?_,hok⟩;have:=hcell j hj;rw[Go.Deep.add_add,hcs]at this;exact this
  obtain⟨g,hg⟩:=Go.Deep.choose_lt Bb;have hTl:((List.range len).map g).length=len:=sM;have hbig:len*bytes<=140737488351232:=by
   have:=hw _ (by rw[DataW.weights,ht];exact List.mem_cons_self);rw[hby]at this;simp only[List.length_map,reachBytes]at this;have hln:elems.length=len:=oM;simp only[hln]at this;exact gH (Nat.mul_le_mul_right _ (Nat.le_add_right _ _)) this
  refine⟨(List.range len).map g,?_,by rw[hTl];exact hbig,?_⟩
  .refine⟨some a,cap,by rw[hTl],?_⟩;by_cases hl0:len=0
   .left;simp[hl0]
   .obtain⟨b,off,spot⟩:=a;have hne:0<(f (g 0)).length:=by rw[hf];exact hk
    have hspot:spot=none:=by
     have:=(hg 0 oM).1 0 hk;rw[gB hne]at this;simpa[Addr.add]using World.cell?_spot this
    subst hspot;refine .inr ⟨b,off,rfl,fun i hi j hj=>?_⟩;have hi':i<len:=by rw[hTl]at hi;exact hi
    obtain⟨q,-⟩:=hg i hi';have e:((List.range len).map g)[i]=g i:=sM;have hj2:j<(f (g i)).length:=by simpa[e]using hj
    have hj3:j<k:=by rw[<-hf (g i)];exact hj2
    have q':=q j hj3;rw[NM,<-Nat.add_assoc]at q';rw[q',gB hj2];congr 1;simp[e]
  .intro q hq;obtain⟨i,hi,rfl⟩:=List.mem_map.1 hq;exact(hg i (List.mem_range.1 hi)).2
instance:Inhabited Ab:=⟨⟨0,0,0,0,0,0,0⟩⟩
instance:Inhabited Ty:=⟨⟨0,0⟩⟩
instance:Inhabited Sl:=⟨⟨⟨0,0⟩,false,0,0⟩⟩
instance:Inhabited Cr:=⟨⟨⟨#[]⟩,0,0⟩⟩
theorem TI{r:Reach}{b0:Nat}{v:Value}{d:DataW H}{pl:List MemPlace}(hv:Value.okWide Tryz.prog w r b0 27 v)(h:DataW.Trod enc Tryz.prog w base (fun _=>true) held 27 v d pl)(hw:∀n∈d.weights Tryz.prog 27,n<=reachBytes):
 ∃ (v0 v1 v2 v3:Value) (c:Cd),v=.agg #[v0,v1,v2,v3]/\CH w v0 v1 v2 v3 c/\AZ c/\c.sign.length*32<=140737488351232/\c.regs.length*16<=140737488351232/\c.slots.length*32<=140737488351232/\c.list.length*56<=140737488351232:=by
 obtain⟨cs,rfl,hsz⟩:=okWide_struct Tryz.underlying27 hv;obtain⟨fuel,hf0⟩:=h;obtain⟨xs,n,hfn,hx,hl,hxl,hf⟩:=DataW.trod_struct Tryz.underlying27 hf0;rw[PC]at hl;obtain⟨cl,hcl⟩:=gA ((Value.agg cs).cells.toList)
 rw[hcl]at hl hf;have hcs:cs.toList=cl:=by rw[<-hcl];simp[Value.cells]
 match cl,hl with
 |[v0,v1,v2,v3],_=>
 match xs,hxl with
 |[y0,y1,y2,y3],_=>
  have e0:DataW.trod enc Tryz.prog w base (fun _=>true) held n 22 [v0]=some y0:=hf 0 _ rfl;have e1:DataW.trod enc Tryz.prog w base (fun _=>true) held n 23 [v1]=some y1:=hf 1 _ rfl;have e2:DataW.trod enc Tryz.prog w base (fun _=>true) held n 24 [v2]=some y2:=hf 2 _ rfl;have e3:DataW.trod enc Tryz.prog w base (fun _=>true) held n 25 [v3]=some y3:=hf 3 _ rfl;have hd:d=.agg [y0.1,y1.1,y2.1,y3.1]:=congrArg Prod.fst hx;have hws:∀ (j:Nat) (t:TypeId) (d:DataW H),[22,23,24,25][j]? =some t->[y0.1,y1.1,y2.1,y3.1][j]? =some d->∀n∈d.weights Tryz.prog t,n<=reachBytes:=fun j t d' ht hd' n hn=>by
   refine hw n ?_;rw[hd];show n∈DataW.weights Tryz.prog 27 (.agg [y0.1,y1.1,y2.1,y3.1]);rw[DataW.weights,Tryz.underlying27];exact DataW.weights_mem_each (ts:=[22,23,24,25]) ht hd' n hn
  obtain⟨l0,r0,s0,g0⟩:=GJ (Good:=fun p:Cr=>p.name.size<=140737488351232) dE Fl Tryz.underlying22 J3 NZ dE (fun h hw=>Wh h hw) e0 (hws 0 _ _ rfl rfl);obtain⟨l1,r1,s1,g1⟩:=GJ (Good:=fun _:Ty=>True) dE GP Tryz.underlying23 JO PB dE (fun h _=>RQ h) e1 (hws 1 _ _ rfl rfl);obtain⟨l2,r2,s2,g2⟩:=GJ (Good:=SlOk) dE Ii Tryz.underlying24 JN PA dE (fun h _=>Zs h) e2 (hws 2 _ _ rfl rfl);obtain⟨l3,r3,s3,g3⟩:=GJ (Good:=InsOk) dE Co Tryz.underlying25 JM Pz dE (fun h _=>Wg h) e3 (hws 3 _ _ rfl rfl);refine⟨v0,v1,v2,v3,⟨l0,l1,l2,l3⟩,?_,⟨r0,r1,r2,r3⟩,⟨by show l0.length<=_;omega,g0,by show l1.length<=_;omega,by show l2.length<=_;omega,by show l3.length<=_;omega,g2,g3⟩,s0,s1,s2,s3⟩;rw[Value.agg.injEq];apply Array.toList_inj.1;exact hcs
end
end
end Go.Proofs.YtpoklpdgpcnkgaaGreat
