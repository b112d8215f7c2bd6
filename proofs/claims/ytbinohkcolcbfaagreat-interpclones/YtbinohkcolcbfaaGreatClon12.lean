import Derived.Test.YtbinohkcolcbfaaGreatClon1
import Derived.Test.YtbinohkcolcbfaaGreatClon10
import Derived.Test.YtbinohkcolcbfaaGreatClon6
import Derived.Test.YtbinohkcolcbfaaGreatClon9
import Derived.Test.YtbinohkcolcbfaaGreatClon2
import Derived.Test.YtbinohkcolcbfaaGreatClon11
import Derived.Shelf.Small.Bits
import Derived.Test.YtbinohkcolcbfaaGreatClon5
namespace Go.Proofs.YtbinohkcolcbfaaGreat
open Go.RowKit Go.Proofs.Tryz
set_option linter.all false
set_option maxRecDepth 100000
set_option maxHeartbeats 16000000
theorem Fz:(prog.info? 4).map (fun i=>(i.zero,i.size,i.bytes))=some (some (.bool false),1,1):=kR
theorem Z0(m:Nat)(h:m<=70368744177664)(w:World):(Instr.makeSlice 100 (.int .i64 m) (.int .i64 m)).run prog w=.ok (.slice (some ⟨w.heap.size,0,none⟩) m m) (w.alloc (.cells (madeCells #[.bool false] m) 4)):=
 run_make_row' (P:=prog) 100 4 (.bool false) 1 underlying100 Fz rfl .i64 .i64 m oM oM w
theorem WS.start(w:World)(C n:Nat):WS w.heap.size (w.heap.size+1) C n w.heap.size (.slice none 0 0) (.slice none 0 0) ((w.alloc (.cells (madeCells #[.bool false] n) 4)).alloc (.cells #[.pointer (some ⟨C,0,none⟩),.slice (some ⟨w.heap.size,0,none⟩) n n,.slice none 0 0,.slice none 0 0] 103)) ⟨[],[]⟩:=by
 have h1:=(World.rowIs_made w (.bool false) n 4).alloc (.cells #[.pointer (some ⟨C,0,none⟩),.slice (some ⟨w.heap.size,0,none⟩) n n,.slice none 0 0,.slice none 0 0] 103);have h2:=World.rowIs_alloc (w.alloc (.cells (madeCells #[.bool false] n) 4)) #[.pointer (some ⟨C,0,none⟩),.slice (some ⟨w.heap.size,0,none⟩) n n,.slice none 0 0,.slice none 0 0] 103 (wkF C w.heap.size n (.slice none 0 0) (.slice none 0 0)) (fun i hi=>by
  have hi':i<4:=hi;obtain rfl|rfl|rfl|rfl:i=0\/i=1\/i=2\/i=3:=oM
  all_goals rfl)
 have hs:(w.alloc (.cells (madeCells #[.bool false] n) 4)).heap.size=w.heap.size+1:=sM;rw[hs]at h2;exact⟨h2,h1.congr fun j _=>by simp,World.ownsRow_nil _ _ _ 1,World.ownsRow_nil _ _ _ 3,oM,Nat.le_refl _,oM,by simp[Value.ownBlock],by simp[Value.ownBlock],by simp[Value.ownBlock],by simp[Value.ownBlock],by simp[Value.ownBlock]⟩
theorem Jx(v0 v1 v2 v3:Value)(c:Cd)(hk:B0 c)(w:World)(hv:Di w v0 v1 v2 v3 c):
 Calls prog 15 #[.agg #[v0,v1,v2,v3]] w fun e w'=>e=.returned (.tuple #[.int .i64 (Ar c).1,.int .i64 (Ar c).2])/\Below w.heap.size w w':=by
 have hat:C0 (w.alloc (.cells #[v0,v1,v2,v3] 27)) w.heap.size v0 v1 v2 v3 c:=by
  refine⟨fun j hj=>?_,hv.below (A0 _ _)⟩;have hj':j<4:=hj;obtain rfl|rfl|rfl|rfl:j=0\/j=1\/j=2\/j=3:=oM
  all_goals simp[go_sem]
 have K1:=Ip w.heap.size v0 v1 v2 v3 c hk _ hat;unfold Ar;obtain⟨A,hA⟩:∃A,Cb c=A:=⟨_,rfl⟩
 rw[hA]at K1 ⊢;have HK1:Hid (Calls prog 31 #[.pointer (some ⟨w.heap.size,0,none⟩)] (w.alloc (.cells #[v0,v1,v2,v3] 27)) fun e w'=>e=.returned (.int .i64 A)/\Below (w.alloc (.cells #[v0,v1,v2,v3] 27)).heap.size (w.alloc (.cells #[v0,v1,v2,v3] 27)) w'):=K1;clear K1;by_cases h0:A=0
 ·rw[if_neg (by simp[h0])];have hsz:c.regs.length<=16384/\c.list.length<=32768/\Am c=true:=by
   rw[h0]at hA;unfold Cb at hA;split at hA
   ·rename_i e1;exact absurd hA e1
   ·split at hA
    ·exact absurd hA dE
    ·split at hA
     ·exact absurd hA dE
     ·split at hA
      ·rename_i e1 e2 e3 e4;simp only[Bool.and_eq_true]at e4;exact⟨oM,oM,e4.1⟩
      ·exact absurd hA dE
  obtain⟨hn,hN,htm⟩:=hsz;clear hA;subst h0;have KT:=fun E G gi vs vo s b o i w h ok hc hi hb hb0 hb1=>Nf E G w.heap.size c.regs.length gi vs vo s v0 v1 v2 v3 c hk b o i w h rfl ok hn hc hi hb htm hb0 hb1;clear KT;have hr:=hv.list;obtain⟨p3,q3,rfl,hr3⟩:=hv.list;obtain⟨p1,q1,rfl,hr1⟩:=hv.regs;have HAT:Hid (C0 (w.alloc (.cells #[v0,.slice p1 c.regs.length q1,v2,.slice p3 c.list.length q3] 27)) w.heap.size v0 (.slice p1 c.regs.length q1) v2 (.slice p3 c.list.length q3) c):=hat;obtain⟨Pr,hPr⟩:∃P,Jd c ⟨[],[]⟩ 0 c.list=P:=⟨_,rfl⟩
  rw[hPr];have HP:Hid (Jd c ⟨[],[]⟩ 0 c.list=Pr):=hPr;have HROW:Hid (B3 7 DP w (.slice p3 c.list.length q3) c.list):=hr;have HIB:Hid (∀i∈c.list,0<=i.bits/\i.bits<4294967296):=hk.ibits;obtain⟨n,hnn⟩:∃n,c.regs.length=n:=⟨_,rfl⟩
  obtain⟨N,hNN⟩:∃N,c.list.length=N:=⟨_,rfl⟩
  have HNE:Hid (c.regs.length=n):=hnn;have HNL:Hid (c.list.length=N):=hNN;rw[hnn]at hn HK1 HAT;rw[hNN]at hN HK1 HAT HROW;rw[hnn,hNN];have mk:=fun w=>Z0 n oM w;have HOKC:Hid (B0 c):=hk;have HTM:Hid (Am c=true):=htm;have f1:=HAT.out.1.at 1 rfl;have f3:=HAT.out.1.at 3 rfl;rw[Nat.zero_add]at f1 f3;have HC:Hid (∀v,Below (w.alloc (.cells #[v0,.slice p1 n q1,v2,.slice p3 N q3] 27)).heap.size (w.alloc (.cells #[v0,.slice p1 n q1,v2,.slice p3 N q3] 27)) v->v.cell? ⟨w.heap.size,1,none⟩=some (.slice p1 n q1)/\v.cell? ⟨w.heap.size,3,none⟩=some (.slice p3 N q3)):=fun v hv=>⟨kc hv f1,kc hv f3⟩
  clear hat hv hr hr3 hr1 hPr hnn hNN hk htm f1 f3;go_enter func15,ntmps15;go_wp2_with(go_at_call 31;refine HK1.out.mono ?_;rintro e w1 ⟨rfl,hb1⟩;obtain⟨g1,g3⟩:=HC.out w1 hb1;have g4:((w1.alloc (.cells (madeCells #[.bool false] n) 4)).alloc (.cells #[.pointer (some ⟨w.heap.size,0,none⟩),.slice (some ⟨w1.heap.size,0,none⟩) n n,.slice none 0 0,.slice none 0 0] 103)).cell? ⟨w.heap.size,3,none⟩=some (.slice p3 N q3):=kc (A0 _ _) (kc (A0 _ _) g3));have HB1:Hid (Below w.heap.size w w1):=bel (A0 _ _) hb1;have HAT1:Hid (C0 w1 w.heap.size v0 (.slice p1 n q1) v2 (.slice p3 N q3) c):=HAT.out.below hb1;have hs1:w.heap.size<w1.heap.size:=by have:=hb1.size;simp at this;omega
  have HS0:=WS.start w1 w.heap.size n;have HB0:Below w1.heap.size w1 ((w1.alloc (.cells (madeCells #[.bool false] n) 4)).alloc (.cells #[.pointer (some ⟨w.heap.size,0,none⟩),.slice (some ⟨w1.heap.size,0,none⟩) n n,.slice none 0 0,.slice none 0 0] 103)):=bel (A0 _ _) (A0 _ _);obtain⟨W2,hW2⟩:∃W2,(w1.alloc (.cells (madeCells #[.bool false] n) 4)).alloc (.cells #[.pointer (some ⟨w.heap.size,0,none⟩),.slice (some ⟨w1.heap.size,0,none⟩) n n,.slice none 0 0,.slice none 0 0] 103)=W2:=⟨_,rfl⟩
  rw[hW2]at HS0 HB0;try rw[hW2]
  clear HK1 HC hb1 mk HAT g4 hW2
  go_loopw [19] (fun iv wr=>∃ (j:Nat) (s:Wk) (vs vo:Value),j<=N/\iv=.int .i64 j/\Below w1.heap.size w1 wr/\WS w1.heap.size (w1.heap.size+1) w.heap.size n w1.heap.size vs vo wr s/\Dm n s/\Hid (Jd c s j (c.list.drop j)=Pr)) (fun iv _=>N-(intOf iv).toNat)
  case atStart=>exact⟨0,⟨[],[]⟩,_,_,Nat.zero_le _,rfl,HB0,HS0,Dm.start n,by show _=_;rw[List.drop_zero];exact HP.out⟩
  case round=>
   obtain⟨j,s,vs,vo,hj,rfl,hb,hws,hok,hgo⟩:=hrel;have HWS:Hid (WS w1.heap.size (w1.heap.size+1) w.heap.size n w1.heap.size vs vo wr s):=hws;have HOK:Hid (Dm n s):=hok;have HBW:Hid (Below w1.heap.size w1 wr):=hb;have d3:=kc hb g3;have l3:=hws.c3;have hol:∃p q,vo=.slice p s.opens.length q:=Bl hws.opn;have hnest:=hok.nest;clear HS0 HB0;by_cases hlt:j<N
   ·have hll:j<c.list.length:=by rw[HNL.out];exact hlt
    have hgo':=hgo.out;rw[List.drop_eq_getElem_cons hll]at hgo';have hgi:Jd c s j (c.list[j]::c.list.drop (j+1))=if AQ c s c.list[j]then Jd c (Aq s c.list[j]) (j+1) (c.list.drop (j+1))else(160,(j:Int)):=rfl;rw[hgi]at hgo';obtain⟨b,o,rfl,hx⟩:=HROW.out.at hll;have hbw:b<w.heap.size:=A3 (hx 0 (by simp[DP]));have hxw:=(hx.below HB1.out).below hb;have KT:=Nf w1.heap.size (w1.heap.size+1) w.heap.size n w1.heap.size vs vo s v0 (.slice p1 n q1) v2 (.slice (some ⟨b,o,none⟩) N q3) c HOKC.out b (o+j*7) c.list[j] wr hws HNE.out hok hn (HAT1.out.below hb) hxw oM HTM.out (HIB.out _ (List.getElem_mem hll)).1 (HIB.out _ (List.getElem_mem hll)).2;have hokS:AQ c s c.list[j]=true->Dm n (Aq s c.list[j]):=fun ht=>by
     have hq:Dm c.regs.length s:=by rw[HNE.out];exact hok
     have:=Dm.step hq ht;rw[HNE.out]at this;exact this
    obtain⟨X,hX⟩:∃X,AQ c s c.list[j]=X:=⟨_,rfl⟩
    rw[hX]at hgo' hokS;simp only[hX]at KT;have HKT:Hid (Calls prog 32 #[.pointer (some ⟨w1.heap.size+1,0,none⟩),.pointer (some ⟨b,o+j*7,none⟩)] wr fun e w'=>e=.returned (.bool X)/\Below w1.heap.size wr w'/\(X=true->∃vs' vo',WS w1.heap.size (w1.heap.size+1) w.heap.size n w1.heap.size vs' vo' w' (Aq s c.list[j]))):=KT;have HGO:Hid ((if X=true then Jd c (Aq s c.list[j]) (j+1) (c.list.drop (j+1))else(160,(j:Int)))=Pr):=hgo';have HOS:Hid (X=true->Dm n (Aq s c.list[j])):=hokS;have i1:(0:Int)<=(j:Int):=oM;have i2:(j:Int)<(N:Int):=oM;clear KT hgo hgo' hgi hokS hX hx hxw hws hok hb hol l3;cases X
    ·go_wp2_with(go_at_call 32;refine HKT.out.mono ?_;rintro e w5 ⟨rfl,hb5,hw5⟩;have HB5:Hid (Below w1.heap.size wr w5):=hb5;clear hb5 hw5)
     go_ret2
     refine⟨?_,bel HB1.out (HBW.out.trans HB5.out)⟩;have:=HGO.out;rw[if_neg dE]at this;rw[←this];rfl
    ·go_wp2_with(go_at_call 32;refine HKT.out.mono ?_;rintro e w5 ⟨rfl,hb5,hw5⟩;have HB5:Hid (Below w1.heap.size wr w5):=hb5;have HW5:Hid (∃vs' vo',WS w1.heap.size (w1.heap.size+1) w.heap.size n w1.heap.size vs' vo' w5 (Aq s c.list[j])):=hw5 fT;clear hb5 hw5);go_roundw
     case rel=>
      obtain⟨vs',vo',hw5⟩:=HW5.out;exact⟨j+1,_,vs',vo',oM,gN,HBW.out.trans HB5.out,hw5,HOS.out fT,by show _=_;have:=HGO.out;rw[if_pos fT]at this;exact this⟩
     case measure=>simp[intOf];omega
   ·have:j=N:=oM;subst this;have hgo':=hgo.out;rw[List.drop_of_length_le (by rw[HNL.out];exact Nat.le_refl _)]at hgo';have hgi:Jd c s j []=if s.opens.isEmpty then(0,0)else(160,(j:Int)):=rfl;rw[hgi]at hgo';obtain⟨p,q,rfl⟩:=hol;obtain⟨M,hM⟩:∃M,s.opens.length=M:=⟨_,rfl⟩
    rw[hM]at l3 hnest;have hE:s.opens.isEmpty=decide (M=0):=by
     rw[←hM];cases s.opens with
     |nil=>rfl
     |cons a l=>simp
    rw[hE]at hgo';have HGO:Hid ((if decide (M=0)=true then((0:Int),(0:Int))else(160,(j:Int)))=Pr):=hgo';clear hgo hgo' hgi hE hM hws hok hb;by_cases hz:M=0
    ·subst hz;go_wp2
     go_ret2
     refine⟨?_,bel HB1.out HBW.out⟩;rw[←HGO.out];rfl
    ·have hz':(0:Int)<(M:Int):=oM;have hz2:0<M:=oM;have HZ:Hid (¬M=0):=hz;clear hz;go_wp2;refine rG (fun v=>v.cell? ⟨w.heap.size,3,none⟩=some (.slice p3 j q3)) fun hHeld=>?_;refine Tc 0 1 2 ?_;refine Tb 3 4 ?_;refine wpAnyH_done kR ?_ _;go_wp2
     go_ret2
     refine⟨?_,(bel HB1.out HBW.out).drew⟩;have:=HGO.out;rw[if_neg (by simpa using HZ.out)]at this;rw[←this];rfl
 ·rw[if_pos h0];have h0':(A==0)=false:=by simpa using h0
  go_enter func15,ntmps15;go_wp2_with(go_at_call 31;refine HK1.out.mono ?_;rintro e w1 ⟨rfl,hb1⟩)
  all_goals(go_ret2;exact⟨rfl,bel (A0 _ _) hb1⟩)
def Dk(i:Au):Value:=.agg #[.int .i64 i.op,.int .i64 i.d,.int .i64 i.a,.int .i64 i.b,.int .i64 i.c,.int .i64 i.n,.int .u32 i.bits]
theorem Re{w v:World}{i:Au}{t:TypeId}(k:Below (w.alloc (.cells #[.int .i64 i.op,.int .i64 i.d,.int .i64 i.a,.int .i64 i.b,.int .i64 i.c,.int .i64 i.n,.int .u32 i.bits] t)).heap.size (w.alloc (.cells #[.int .i64 i.op,.int .i64 i.d,.int .i64 i.a,.int .i64 i.b,.int .i64 i.c,.int .i64 i.n,.int .u32 i.bits] t)) v):Aa v w.heap.size 0 (DP i):=by
 refine Aa.below (fun j hj=>?_) k;have hj':j<7:=hj;obtain rfl|rfl|rfl|rfl|rfl|rfl|rfl:j=0\/j=1\/j=2\/j=3\/j=4\/j=5\/j=6:=oM
 all_goals simp[go_sem,DP]
theorem RK(i:Au)(w:World):Calls prog 118 #[Dk i] w fun e w'=>∃v,e=.returned v/\w'.ownsRow w.heap.size 3 1 v (Al i (A6 i.op)).length (BQ (Al i (A6 i.op)))/\Below w.heap.size w w':=by
 have K1:=fun w=>Ka i.op w;have K2:=fun w h=>G2 w.heap.size 0 i (A6 i.op) w h;clear K2;have K3:=fun b v h=>G2 b 0 i (A6 i.op) v h;have HIC:=fun(v:World) k=>Re (w:=w) (v:=v) (i:=i) (t:=45) k;obtain⟨r,hr⟩:∃r,A6 i.op=r:=⟨_,rfl⟩
 obtain⟨X,hX⟩:∃X,As i.op=X:=⟨_,rfl⟩
 simp only[hr,hX]at K1 K3 ⊢;obtain⟨RL,hRL⟩:∃x,Al i r=x:=⟨_,rfl⟩
 simp only[hRL]at K3 ⊢;obtain⟨L0,L1,L2,L3,L4⟩:=r;obtain⟨op,D,A,B,E,n,bt⟩:=i;unfold Dk;unfold Dh at K1 K3;simp only at K1 K3 HIC ⊢;have HK:Hid (∀w,Calls prog 53 #[.int .i64 op] w fun e w'=>e=.returned (.tuple #[.agg #[.int .i64 L0,.int .i64 L1,.int .i64 L2,.int .i64 L3,.int .i64 L4],.bool X])/\Below w.heap.size w w'):=K1;have HK3:Hid (∀b v,Aa v b 0 (DP ⟨op,D,A,B,E,n,bt⟩)->Calls prog 56 #[.agg #[.int .i64 L0,.int .i64 L1,.int .i64 L2,.int .i64 L3,.int .i64 L4],.pointer (some ⟨b,0,none⟩)] v fun e w'=>∃u,e=.returned u/\w'.ownsRow v.heap.size 3 1 u RL.length (BQ RL)/\Below v.heap.size v w'):=K3;have HCC:Hid (∀v,Below (w.alloc (.cells #[.int .i64 op,.int .i64 D,.int .i64 A,.int .i64 B,.int .i64 E,.int .i64 n,.int .u32 bt] 45)).heap.size (w.alloc (.cells #[.int .i64 op,.int .i64 D,.int .i64 A,.int .i64 B,.int .i64 E,.int .i64 n,.int .u32 bt] 45)) v->Aa v w.heap.size 0 (DP ⟨op,D,A,B,E,n,bt⟩)):=HIC;clear K1 K3 HIC hr hX hRL;go_enter func118,ntmps118;go_wp2_with(first
  |(go_at_call 53;refine(HK.out _).mono ?_;rintro e w1 ⟨rfl,hb1⟩)
  |(go_at_call 56;refine(HK3.out _ _ (HCC.out _ (bel hb1 (A0 _ _)))).mono ?_;rintro e w2 ⟨u,rfl,hu,hb2⟩;have HU:Hid (w2.ownsRow (w1.alloc (.cells #[.int .i64 L0,.int .i64 L1,.int .i64 L2,.int .i64 L3,.int .i64 L4] 134)).heap.size 3 1 u RL.length (BQ RL)):=hu;have HB2:Hid (Below w.heap.size w w2):=bel (bel (bel (A0 _ _) hb1) (A0 _ _)) hb2;have hs:w.heap.size<=(w1.alloc (.cells #[.int .i64 L0,.int .i64 L1,.int .i64 L2,.int .i64 L3,.int .i64 L4] 134)).heap.size:=(bel (bel (A0 _ _) hb1) (A0 _ _)).size;have HSZ:Hid (w.heap.size<=(w1.alloc (.cells #[.int .i64 L0,.int .i64 L1,.int .i64 L2,.int .i64 L3,.int .i64 L4] 134)).heap.size):=hs;clear hu hb2 hs))
 go_ret;exact⟨_,rfl,Gr HU.out HSZ.out,HB2.out⟩
def AT{α:Type}(f:α->List Value)(l:List α):List Value:=l.flatMap f
theorem Eo{α:Type}{f:α->List Value}{k:Nat}(hf:∀x,(f x).length=k):∀l:List α,(AT f l).length=l.length*k
 |[]=>by simp[AT]
 |a::l=>by
  have e:AT f (a::l)=f a++AT f l:=by simp[AT]
  rw[e,List.length_append,Eo hf l,hf,List.length_cons,Nat.add_mul,Nat.one_mul,Nat.add_comm]
theorem Fy{α:Type}{f:α->List Value}{k:Nat}(hf:∀x,(f x).length=k):∀ (l:List α) (i j:Nat) (hi:i<l.length),j<k->(AT f l)[i*k+j]? =(f l[i])[j]?
 |[],i,j,hi,hj=>absurd hi (Nat.not_lt_zero _)
 |a::l,0,j,hi,hj=>by
  have e:AT f (a::l)=f a++AT f l:=by simp[AT]
  rw[e,Nat.zero_mul,Nat.zero_add,List.getElem?_append_left (by rw[hf];exact hj)];rfl
 |a::l,i+1,j,hi,hj=>by
  have e:AT f (a::l)=f a++AT f l:=by simp[AT]
  have e2:(i+1)*k+j-(f a).length=i*k+j:=by rw[hf,Nat.add_mul,Nat.one_mul];omega
  rw[e,List.getElem?_append_right (by rw[hf,Nat.add_mul,Nat.one_mul];omega),e2];exact Fy hf l i j (by simpa using hi) hj
theorem Fe{α:Type}(f:α->List Value)(l m:List α):AT f (l++m)=AT f l++AT f m:=by simp[AT]
theorem Ic{α:Type}{f:α->List Value}{k:Nat}(hf:∀x,(f x).length=k){w:World}{B:Nat}{t:TypeId}{v:Value}{l:List α}(h:w.ownsRow B t k v l.length (AT f l)):B3 k f w v l:=by
 by_cases h0:l=[]
 ·subst h0;obtain⟨p,c,hv⟩:=Bl h;exact⟨p,c,hv,.inl rfl⟩
 ·obtain⟨g,cap,hv,_,_,_,_,hcl⟩:=DF h (List.length_pos_iff.2 h0);refine⟨_,cap,hv,.inr ⟨g,0,rfl,fun i hi j hj=>?_⟩⟩;rw[Nat.zero_add];exact hcl _ _ (by rw[Fy hf l i j hi (by rw[←hf l[i]];exact hj)];exact List.getElem?_eq_getElem hj)
theorem LY(b o j:Nat):(⟨b,o,none⟩:Addr).add j=⟨b,o+j,none⟩:=by unfold Addr.add;split<;>simp_all
theorem Kb{α:Type}{f:α->List Value}{k:Nat}(hk:0<k)(hf:∀x,(f x).length=k){w:World}{b o:Nat}{l:List α}(h:∀i (hi:i<l.length),Aa w b (o+i*k) (f l[i]))(j:Nat)(u:Value)(hu:(AT f l)[j]? =some u):w.cell? ((⟨b,o,none⟩:Addr).add j)=some u:=by
 have hj:j<l.length*k:=by have:=(List.getElem?_eq_some_iff.1 hu).1;rwa[Eo hf]at this
 have hi:j/k<l.length:=Nat.div_lt_of_lt_mul (by rw[Nat.mul_comm];exact hj);have hm:j%k<k:=Nat.mod_lt _ hk;have e:j=j/k*k+j%k:=by rw[Nat.mul_comm];exact(Nat.div_add_mod j k).symm
 rw[e,Fy hf l _ _ hi hm]at hu;rw[LY];have:=(h _ hi).at _ hu;rw[Nat.add_assoc,←e]at this;exact this
theorem M6{α:Type}{f:α->List Value}{k bytes:Nat}{t e:TypeId}{z:Value}{i:TypeInfo}(hk:0<k)(hf:∀x,(f x).length=k)(h1:∀x,∀u∈f x,u.oneCell'=true)(ht:prog.underlying t=some (.slice e))(hi:prog.info? e=some i)(hz:i.zero=some z)(hsize:i.size=k)(hby:i.bytes=bytes)(hzs:z.cells.size=k)
 {l:List α} {v:Value} {w:World} (h:B3 k f w v l) (hl:l.length<=maxLen) (hb:l.length*bytes<=140737488355328) (ty:TypeId):
 ∃v' w',(Builtin.append_ #[t,t] ty #[.slice none 0 0,v]).run prog w=.ok v' w'/\Below w.heap.size w w'/\w'.ownsRow w.heap.size e k v' l.length (AT f l):=by
 obtain⟨p,c,rfl,h⟩:=h;by_cases h0:l=[]
 ·subst h0;refine⟨.slice none 0 0,w,?_,Below.refl _ _,⟨by simp[AT],.inl ⟨rfl,rfl⟩⟩⟩;exact Zdg
 ·obtain⟨b,o,rfl,h2⟩:=h.resolve_left h0;have hpos:0<l.length:=List.length_pos_iff.2 h0;obtain⟨g,cap,w',hr,hown,hg,hat,hlt⟩:=run_append_lies (P:=prog) w t ty w.heap.size e i z k bytes ht hi hz hsize hby hzs hk (.slice none 0 0) 0 [] (World.ownsRow_nil w _ _ k) ⟨b,o,none⟩ l.length c (AT f l) (Eo hf l) (Kb hk hf h2) Zgs hpos oM (by rw[Nat.zero_add];exact hb) (Nat.le_refl _) w.heap.size rfl;rw[Nat.zero_add]at hr hown;exact⟨_,w',hr,⟨hg.os,hg.tape,hg.output,hg.size,fun j hj=>hg.block j hj (by show some j≠none;simp)⟩,by rw[List.nil_append]at hown;exact hown⟩
theorem AD{P:Program}{w w':World}{ops:Array Oper}{rest:List Oper}{o:Oper}{a:Act}{Q:Exit->Act->World->Prop}(hgd:o.guard=none)(s x:Operand)(t:TypeId)
 (ho:o.op=.call {callee:=.builtin .append,args:=#[s,x],argTypes:=#[t,t]}) (v v2 v':Value) (hs:a.eval s=v) (hx:a.eval x=v2) (hr:(Builtin.append_ #[t,t] o.type #[v,v2]).run P w=.ok v' w')
 (h:wpList P ops Q rest (a.put o.dst v') w'):wpList P ops Q (o::rest) a w:=
 wpList_plain hgd fun _ hK=>by
  unfold Oper.wp execOp;simp only[ho,resolve,invoke,builtin,Sem.run_bind,Sem.run_pure,Result.andThen_ok,List.map_toArray,List.map_cons,List.map_nil,hs,hx,hr];exact hK _ _ h
theorem WI:∀x:Au,∀u∈DP x,u.oneCell'=true:=fun x u hu=>by simp[DP]at hu;rcases hu with rfl|rfl|rfl|rfl|rfl|rfl|rfl<;>rfl
theorem R9:(prog.info? 45).map (fun i=>(i.zero,i.size,i.bytes))=some (some (.agg #[.int .i64 0,.int .i64 0,.int .i64 0,.int .i64 0,.int .i64 0,.int .i64 0,.int .u32 0]),7,56):=kR


def Vl(i:Au):Bool:=(A6 i.op).d != 0
theorem RP(op:Int)(w:World):Calls prog 106 #[.int .i64 op] w fun e w'=>e=.returned (.bool (Bg op))/\w'=w:=by
 unfold Bg;by_cases h:3<=op
 all_goals
  go_enter func106,ntmps106;exact Zdz
theorem Ya(a:UInt8)(X:Bool)(h:(a==45)=X):((a.toNat:Int) != 45)= !X:=by
 rw[←h];have:((a.toNat:Int)==45)=(a==45):=by
  rw[Bool.eq_iff_iff];simp only[beq_iff_eq];constructor
  ·intro e;apply UInt8.toNat_inj.1;show a.toNat=45;omega
  ·intro e;subst e;rfl
 simp[bne,this]
theorem RX(i:Au)(w:World):Calls prog 39 #[Dk i] w fun e w'=>e=.returned (.bool (Vl i))/\Below w.heap.size w w':=by
 unfold Vl;rcases MP i.op (w.alloc (.cells #[.int .i64 i.op,.int .i64 i.d,.int .i64 i.a,.int .i64 i.b,.int .i64 i.c,.int .i64 i.n,.int .u32 i.bits] 45))with⟨hk,hc⟩|⟨hk,a,b,c,d,e,ht,hc⟩
 ·rw[GB i.op hk];obtain⟨op,D,A,B,E,n,bt⟩:=i;unfold Dk;simp only at hc hk ⊢;have HK:Hid (Calls prog 67 #[.int .i64 op] (w.alloc (.cells #[.int .i64 op,.int .i64 D,.int .i64 A,.int .i64 B,.int .i64 E,.int .i64 n,.int .u32 bt] 45)) fun e w'=>e=.returned (.tuple #[.string ⟨#[]⟩,.bool false])/\w'=w.alloc (.cells #[.int .i64 op,.int .i64 D,.int .i64 A,.int .i64 B,.int .i64 E,.int .i64 n,.int .u32 bt] 45)):=hc;clear hc;go_enter func39,ntmps39;go_wp2_with(go_at_call 67;refine HK.out.mono ?_;rintro e w1 ⟨rfl,rfl⟩);go_ret;exact⟨rfl,A0 _ _⟩
 ·have h1:=Ya a _ ht.a;obtain⟨X,hX⟩:∃X,(A6 i.op).d=X:=⟨_,rfl⟩
  rw[hX]at h1 ⊢;obtain⟨op,D,A,B,E,n,bt⟩:=i;unfold Dk;simp only at hc ⊢;have HK:Hid (∀w,Calls prog 67 #[.int .i64 op] w fun x w'=>x=.returned (.tuple #[.string ⟨#[a,b,c,d,e]⟩,.bool true])/\w'=w):=hc;have ix:∀w,(Instr.index 9 (.string ⟨#[a,b,c,d,e]⟩) (.int .i64 0)).run prog w=.ok (.int .u8 (a.toNat:Int)) w:=fun w=>by simp[Instr.index,run_underlying underlying9,asIntOf,go_sem];rfl
  clear hc ht hX;go_enter func39,ntmps39;go_wp2_with(go_at_call 67;refine(HK.out _).mono ?_;rintro e w1 ⟨rfl,rfl⟩);go_ret;refine⟨A7 ?_,A0 _ _⟩;first|exact h1|(simp only[h1];rfl)|simp[h1,bne]
structure Zx(w:World)(C Q:Nat)(A B E:Int)(v:World):Prop where
 bel:Below w.heap.size w v
 hC:w.heap.size<=C
 hQ:Q<C
 le:C<=v.heap.size
 g0:v.cell? ⟨Q,0,none⟩=some (.int .i64 A)
 g1:v.cell? ⟨Q,1,none⟩=some (.int .i64 B)
 g2:v.cell? ⟨Q,2,none⟩=some (.int .i64 E)
theorem Zx.next{w:World}{C Q:Nat}{A B E:Int}{v v':World}(h:Zx w C Q A B E v)(k:Below C v v'):Zx w C Q A B E v':=by
 have c1:∀ {a:Addr} {u:Value},a.block<C->v.cell? a=some u->v'.cell? a=some u:=fun ha hu=>(k.cell ha).trans hu;exact⟨h.bel.trans (k.mono h.hC),h.hC,h.hQ,Nat.le_trans h.le k.size,c1 h.hQ h.g0,c1 h.hQ h.g1,c1 h.hQ h.g2⟩
theorem OU(i:Au)(w:World):Calls prog 66 #[Dk i] w fun e w'=>∃v,e=.returned v/\w'.ownsRow w.heap.size 3 1 v (Al i (A6 i.op)).length (BQ (Al i (A6 i.op)))/\Below w.heap.size w w':=by
 rcases MP i.op (w.alloc (.cells #[.int .i64 i.op,.int .i64 i.d,.int .i64 i.a,.int .i64 i.b,.int .i64 i.c,.int .i64 i.n,.int .u32 i.bits] 45))with⟨hk,hc⟩|⟨hk,a,b,c,d,e,ht,hc⟩
 ·rw[GB i.op hk,show Al i ⟨0,0,0,0,0⟩=[] from rfl];obtain⟨op,D,A,B,E,n,bt⟩:=i;unfold Dk;simp only at hc hk ⊢;have HK:Hid (Calls prog 67 #[.int .i64 op] (w.alloc (.cells #[.int .i64 op,.int .i64 D,.int .i64 A,.int .i64 B,.int .i64 E,.int .i64 n,.int .u32 bt] 45)) fun e w'=>e=.returned (.tuple #[.string ⟨#[]⟩,.bool false])/\w'=w.alloc (.cells #[.int .i64 op,.int .i64 D,.int .i64 A,.int .i64 B,.int .i64 E,.int .i64 n,.int .u32 bt] 45)):=hc;clear hc;go_enter func66,ntmps66;go_wp2_with(go_at_call 67;refine HK.out.mono ?_;rintro e w1 ⟨rfl,rfl⟩)
  go_loopw [3,7] (fun lv iv wr=>lv=.slice none 0 0/\iv=.int .i64 0/\Below w.heap.size w wr) (fun _ iv _=>0)
  case atStart=>exact⟨rfl,rfl,bel (A0 _ _) (A0 _ _)⟩
  case round=>
   obtain⟨rfl,rfl,hb⟩:=hrel;go_wp2;go_ret;exact⟨_,rfl,World.ownsRow_nil _ _ _ 1,hb⟩
 ·rw[Gw];have h1:=Ya b _ ht.b;have h2:=Ya c _ ht.c;have h3:=Ya d _ ht.d;obtain⟨i0,hi0,hz0,hz1,hz3⟩:=info_parts Er;obtain⟨r,hr⟩:∃r,A6 i.op=r:=⟨_,rfl⟩
  rw[hr]at h1 h2 h3 ⊢;obtain⟨L0,L1,L2,L3,L4⟩:=r;obtain⟨op,D,A,B,E,n,bt⟩:=i;unfold Dk;simp only at hc h1 h2 h3 ⊢;obtain⟨R,hR⟩:∃R,(Ee L1 A++Ee L2 B)++Ee L3 E=R:=⟨_,rfl⟩
  rw[hR];have HR:Hid ((Ee L1 A++Ee L2 B)++Ee L3 E=R):=hR;have HK:Hid (∀w,Calls prog 67 #[.int .i64 op] w fun x w'=>x=.returned (.tuple #[.string ⟨#[a,b,c,d,e]⟩,.bool true])/\w'=w):=hc;clear hc ht hr hR hk;go_enter func66,ntmps66;go_wp2_with(go_at_call 67;refine(HK.out _).mono ?_;rintro e w1 ⟨rfl,rfl⟩);have HF1:Hid (Zx w (w.heap.size+1+1) (w.heap.size+1) A B E ((w.alloc (.cells #[.int .i64 op,.int .i64 D,.int .i64 A,.int .i64 B,.int .i64 E,.int .i64 n,.int .u32 bt] 45)).alloc (.cells #[.int .i64 A,.int .i64 B,.int .i64 E] 3))):=
   ⟨bel (A0 _ _) (A0 _ _),oM,oM,sM,sG,sG,sG⟩
  obtain⟨W,hW⟩:∃W,(w.alloc (.cells #[.int .i64 op,.int .i64 D,.int .i64 A,.int .i64 B,.int .i64 E,.int .i64 n,.int .u32 bt] 45)).alloc (.cells #[.int .i64 A,.int .i64 B,.int .i64 E] 3)=W:=⟨_,rfl⟩
  rw[hW]at HF1 ⊢;obtain⟨Q,hQ⟩:∃Q,w.heap.size+1=Q:=⟨_,rfl⟩
  rw[hQ]at HF1;try rw[hQ]
  clear hW
  go_loopw [3,7] (fun lv iv wr=>Zx w (Q+1) Q A B E wr/\∃ (j:Nat) (l:List Int),j<=3/\iv=.int .i64 j/\l.length<=j/\Hid (wr.ownsRow (Q+1) 3 1 lv l.length (BQ l))/\Hid ((j=0->l=[])/\(j=1->l=Ee L1 A)/\(j=2->l=Ee L1 A++Ee L2 B)/\(j=3->l=(Ee L1 A++Ee L2 B)++Ee L3 E))) (fun _ iv _=>3-(intOf iv).toNat)
  case atStart=>exact⟨HF1.out,0,[],oM,rfl,sM,World.ownsRow_nil _ _ _ 1,⟨fun _=>rfl,fun h=>absurd h oM,fun h=>absurd h oM,fun h=>absurd h oM⟩⟩
  case round=>
   clear HF1 HK;obtain⟨hF,j,l,hj,rfl,hll,HO,HL⟩:=hrel;have HF:Hid (Zx w (Q+1) Q A B E wr):=hF;have hGw:=hF.le;have hn1:Q≠wr.heap.size:=oM;obtain rfl|rfl|rfl|rfl:j=0\/j=1\/j=2\/j=3:=oM
   ·have g0:=hF.g0;have f0:=kc (A0 wr (.cells #[.int .i64 A] 3)) g0;have hl0:=HL.out.1 rfl;have ix:∀w,(Instr.index 9 (.string ⟨#[a,b,c,d,e]⟩) (.int .i64 1)).run prog w=.ok (.int .u8 (b.toNat:Int)) w:=fun w=>by simp[Instr.index,run_underlying underlying9,asIntOf,go_sem];rfl
    have hq:=h1;clear hF h1 h2 h3;by_cases hz:L1=0
    ·have hz':(!(L1==0))=false:=by simp[hz]
     rw[hz']at hq;have hq2:((b.toNat:Int)==45)=true:=by simpa[bne]using hq
     have HZ:Hid (L1=0):=hz;clear hz;go_wp2;go_roundw
     case rel=>exact⟨HF.out,1,l,oM,by first|rfl|go_num,oM,HO,⟨fun h=>absurd h oM,fun _=>by rw[hl0];unfold Ee;simp[HZ.out],fun h=>absurd h oM,fun h=>absurd h oM⟩⟩
     case measure=>simp[intOf]
    ·have hz':(!(L1==0))=true:=by simp[hz]
     rw[hz']at hq;have hq2:((b.toNat:Int)==45)=false:=by simpa[bne]using hq
     have HZ:Hid (¬L1=0):=hz;clear hz;go_wp2_with(first
      |(at_builtin;refine wpList_append_own_at _ rfl _ _ 82 rfl (Q+1) 3 i0 _ 1 8 underlying82 hi0 hz0 hz1 hz3 rfl dE _ l.length (BQ l) rfl (World.ownsRow.alloc HO.out _) ⟨wr.heap.size,0,none⟩ 1 1 [.int .i64 A] rfl rfl (World.news_of_block (cs:=#[.int .i64 A]) (t:=3) (fr:=(0,0)) (heap_alloc_new wr _)) SD mL oM sO ?_;intro v' w3 hown3 hgrow hnil hat;have HO3:Hid (w3.ownsRow (Q+1) 3 1 v' (l.length+1) (BQ l++[.int .i64 A])):=hown3;have HB3:Hid (Below (Q+1) wr w3):=(Below.alloc (Below.refl _ _) hGw _).grown hgrow sO (fun q e=>(HO.out.lt q e).1);clear hown3 hgrow hnil hat))
     go_roundw
     case rel=>exact⟨HF.out.next HB3.out,1,l++[A],oM,by first|rfl|go_num,sO,by show _;rw[List.length_append,Cw];exact HO3.out,⟨fun h=>absurd h oM,fun _=>by rw[hl0,show Ee L1 A=[A]from if_neg HZ.out];try rfl,fun h=>absurd h oM,fun h=>absurd h oM⟩⟩
     case measure=>simp[intOf]
   ·have g0:=hF.g1;have f0:=kc (A0 wr (.cells #[.int .i64 B] 3)) g0;have hl0:=HL.out.2.1 rfl;have ix:∀w,(Instr.index 9 (.string ⟨#[a,b,c,d,e]⟩) (.int .i64 2)).run prog w=.ok (.int .u8 (c.toNat:Int)) w:=fun w=>by simp[Instr.index,run_underlying underlying9,asIntOf,go_sem];rfl
    have hq:=h2;clear hF h1 h2 h3;by_cases hz:L2=0
    ·have hz':(!(L2==0))=false:=by simp[hz]
     rw[hz']at hq;have hq2:((c.toNat:Int)==45)=true:=by simpa[bne]using hq
     have HZ:Hid (L2=0):=hz;clear hz;go_wp2;go_roundw
     case rel=>exact⟨HF.out,2,l,oM,by first|rfl|go_num,oM,HO,⟨fun h=>absurd h oM,fun h=>absurd h oM,fun _=>by rw[hl0];unfold Ee;simp[HZ.out],fun h=>absurd h oM⟩⟩
     case measure=>simp[intOf]
    ·have hz':(!(L2==0))=true:=by simp[hz]
     rw[hz']at hq;have hq2:((c.toNat:Int)==45)=false:=by simpa[bne]using hq
     have HZ:Hid (¬L2=0):=hz;clear hz;go_wp2_with(first
      |(at_builtin;refine wpList_append_own_at _ rfl _ _ 82 rfl (Q+1) 3 i0 _ 1 8 underlying82 hi0 hz0 hz1 hz3 rfl dE _ l.length (BQ l) rfl (World.ownsRow.alloc HO.out _) ⟨wr.heap.size,0,none⟩ 1 1 [.int .i64 B] rfl rfl (World.news_of_block (cs:=#[.int .i64 B]) (t:=3) (fr:=(0,0)) (heap_alloc_new wr _)) SD mL oM sO ?_;intro v' w3 hown3 hgrow hnil hat;have HO3:Hid (w3.ownsRow (Q+1) 3 1 v' (l.length+1) (BQ l++[.int .i64 B])):=hown3;have HB3:Hid (Below (Q+1) wr w3):=(Below.alloc (Below.refl _ _) hGw _).grown hgrow sO (fun q e=>(HO.out.lt q e).1);clear hown3 hgrow hnil hat))
     go_roundw
     case rel=>exact⟨HF.out.next HB3.out,2,l++[B],oM,by first|rfl|go_num,sO,by show _;rw[List.length_append,Cw];exact HO3.out,⟨fun h=>absurd h oM,fun h=>absurd h oM,fun _=>by rw[hl0,show Ee L2 B=[B]from if_neg HZ.out];try rfl,fun h=>absurd h oM⟩⟩
     case measure=>simp[intOf]
   ·have g0:=hF.g2;have f0:=kc (A0 wr (.cells #[.int .i64 E] 3)) g0;have hl0:=HL.out.2.2.1 rfl;have ix:∀w,(Instr.index 9 (.string ⟨#[a,b,c,d,e]⟩) (.int .i64 3)).run prog w=.ok (.int .u8 (d.toNat:Int)) w:=fun w=>by simp[Instr.index,run_underlying underlying9,asIntOf,go_sem];rfl
    have hq:=h3;clear hF h1 h2 h3;by_cases hz:L3=0
    ·have hz':(!(L3==0))=false:=by simp[hz]
     rw[hz']at hq;have hq2:((d.toNat:Int)==45)=true:=by simpa[bne]using hq
     have HZ:Hid (L3=0):=hz;clear hz;go_wp2;go_roundw
     case rel=>exact⟨HF.out,3,l,oM,by first|rfl|go_num,oM,HO,⟨fun h=>absurd h oM,fun h=>absurd h oM,fun h=>absurd h oM,fun _=>by rw[hl0];unfold Ee;simp[HZ.out]⟩⟩
     case measure=>simp[intOf]
    ·have hz':(!(L3==0))=true:=by simp[hz]
     rw[hz']at hq;have hq2:((d.toNat:Int)==45)=false:=by simpa[bne]using hq
     have HZ:Hid (¬L3=0):=hz;clear hz;go_wp2_with(first
      |(at_builtin;refine wpList_append_own_at _ rfl _ _ 82 rfl (Q+1) 3 i0 _ 1 8 underlying82 hi0 hz0 hz1 hz3 rfl dE _ l.length (BQ l) rfl (World.ownsRow.alloc HO.out _) ⟨wr.heap.size,0,none⟩ 1 1 [.int .i64 E] rfl rfl (World.news_of_block (cs:=#[.int .i64 E]) (t:=3) (fr:=(0,0)) (heap_alloc_new wr _)) SD mL oM sO ?_;intro v' w3 hown3 hgrow hnil hat;have HO3:Hid (w3.ownsRow (Q+1) 3 1 v' (l.length+1) (BQ l++[.int .i64 E])):=hown3;have HB3:Hid (Below (Q+1) wr w3):=(Below.alloc (Below.refl _ _) hGw _).grown hgrow sO (fun q e=>(HO.out.lt q e).1);clear hown3 hgrow hnil hat))
     go_roundw
     case rel=>exact⟨HF.out.next HB3.out,3,l++[E],oM,by first|rfl|go_num,sO,by show _;rw[List.length_append,Cw];exact HO3.out,⟨fun h=>absurd h oM,fun h=>absurd h oM,fun h=>absurd h oM,fun _=>by rw[hl0,show Ee L3 E=[E]from if_neg HZ.out];try rfl⟩⟩
     case measure=>simp[intOf]
   ·exact Zer
theorem GA(t:Ty)(p:Option Addr)(n c:Nat)(hn:n<=140737488351232)(w:World):Calls prog 35 #[Dp t,.slice p n c] w fun e w'=>e=.returned (.bool (At t n))/\Below w.heap.size w w':=by
 obtain⟨K,P⟩:=t;unfold At Dp Ak;simp only;by_cases h1:K=1
 ·subst h1;rw[if_pos (Or.inl rfl)];exact Zeq
 ·by_cases h2:K=2
  ·subst h2;rw[if_pos (Or.inr rfl)];exact Zeq
  ·rw[if_neg (fun e=>e.elim h1 h2)];have h1':(K==1)=false:=by simpa using h1
   have h2':(K==2)=false:=by simpa using h2
   by_cases h3:K=3
   ·subst h3;rw[if_pos rfl];by_cases h:0<=P
    all_goals
     go_enter func35,ntmps35;go_wp2;go_ret;exact⟨A7 (by simp[h];try omega),A0 _ _⟩
   ·rw[if_neg h3];have h3':(K==3)=false:=by simpa using h3
    clear h1 h2 h3;exact Zeq
theorem MX(v0 v1 v2 v3:Value)(c:Cd)(hk:B0 c)(n:Int)(w:World)(hv:Di w v0 v1 v2 v3 c):
 Calls prog 136 #[.agg #[v0,v1,v2,v3],.int .i64 n] w fun e w'=>e=.returned (.tuple #[Dp (A8 c.regs n),.bool (Ak n c.regs.length)])/\Below w.heap.size w w':=by
 have HB:=hk.regsL;have hr:=hv.regs;obtain⟨p,q,rfl,hrr⟩:=hv.regs;clear hv hk;by_cases h0:0<=n
 ·by_cases h1:n<(c.regs.length:Int)
  ·obtain⟨k,rfl⟩:∃k:Nat,n=(k:Int):=⟨n.toNat,oM⟩
   have hk:k<c.regs.length:=oM;have e:A8 c.regs (k:Int)=c.regs[k]:=EP rfl hk;have e2:Ak (k:Int) c.regs.length=true:=C1.2 ⟨oM,oM⟩;rw[e,e2];obtain⟨lb,lo,rfl,hc⟩:=hr.at hk;obtain⟨⟨K,P⟩,ht⟩:∃t:Ty,c.regs[k]=t:=⟨_,rfl⟩
   rw[ht]at hc ⊢;have y0:w.cell? ⟨lb,lo+k*2,none⟩=some (.int .i64 K):=hc.at 0 rfl;have y1:w.cell? ⟨lb,lo+k*2+1,none⟩=some (.int .i64 P):=hc.at 1 rfl;have hlb:lb≠w.heap.size:=by have:=A3 y0;simp only at this;omega
   obtain⟨N,hN⟩:∃N,c.regs.length=N:=⟨_,rfl⟩
   rw[hN]at hk HB ⊢;clear hr hrr hc ht e e2 h0 h1 hN;have g0:∀o o',((w.alloc o).alloc o').cell? ⟨lb,lo+k*2,none⟩=some (.int .i64 K):=fun o o'=>kc (bel (A0 _ _) (A0 _ _)) y0;have g1:∀o o',((w.alloc o).alloc o').cell? ⟨lb,lo+k*2+1,none⟩=some (.int .i64 P):=fun o o'=>kc (bel (A0 _ _) (A0 _ _)) y1;unfold Dp;go_enter func136,ntmps136;go_wp2;refine bodyPost_ret Zgl rfl ?_;exact SC
  ·have e2:Ak n c.regs.length=false:=by unfold Ak;simp;omega
   have e:A8 c.regs n=⟨0,0⟩:=by unfold A8;rw[e2];rfl
   rw[e,e2];obtain⟨N,hN⟩:∃N,c.regs.length=N:=⟨_,rfl⟩
   rw[hN]at h1 HB ⊢;clear hr hrr e e2 hN;unfold Dp;go_enter func136,ntmps136;go_wp2;refine bodyPost_ret Zgl rfl ?_;exact SC
 ·have e2:Ak n c.regs.length=false:=by unfold Ak;simp;omega
  have e:A8 c.regs n=⟨0,0⟩:=by unfold A8;rw[e2];rfl
  rw[e,e2];obtain⟨N,hN⟩:∃N,c.regs.length=N:=⟨_,rfl⟩
  rw[hN]at HB ⊢;clear hr hrr e e2 hN;unfold Dp;go_enter func136,ntmps136;go_wp2;refine bodyPost_ret Zgl rfl ?_;exact SC
def FM(b:Int)(t d:Ty):Bool:=
 if b=110 then t.kind==1 else if b=119 then t.kind==2 else if b=118 then t.kind==3 else if b=100 then t.kind==1||t.kind==3
 else if b=120 then t.kind==1||decide (t=d)else if b=99 then decide (t=d)||(t.kind==1&&d.kind==3)else true
def Aj(rs:List Ty)(b n:Int)(d:Ty):Bool:=if b=45 then n==0 else Ak n rs.length&&FM b (A8 rs n) d
theorem ER(v0 v1 v2 v3:Value)(c:Cd)(hk:B0 c)(b n:Int)(d:Ty)(hb:b=45\/b=110\/b=119\/b=118\/b=100\/b=120\/b=99\/b=97)(w:World)(hv:Di w v0 v1 v2 v3 c):
 Calls prog 104 #[.agg #[v0,v1,v2,v3],.int .u8 b,.int .i64 n,Dp d] w fun e w'=>e=.returned (.bool (Aj c.regs b n d))/\Below w.heap.size w w':=by
 have KT:Hid (∀v,Below w.heap.size w v->Calls prog 136 #[.agg #[v0,v1,v2,v3],.int .i64 n] v fun e w'=>e=.returned (.tuple #[Dp (A8 c.regs n),.bool (Ak n c.regs.length)])/\Below v.heap.size v w'):=fun v h=>MX v0 v1 v2 v3 c hk n v (hv.below h);unfold Aj;obtain⟨X,hX⟩:∃X,Ak n c.regs.length=X:=⟨_,rfl⟩
 obtain⟨⟨K,P⟩,ht⟩:∃t:Ty,A8 c.regs n=t:=⟨_,rfl⟩
 rw[hX,ht]at KT ⊢;clear hX ht hv hk;obtain⟨dk,dp⟩:=d;unfold Dp at KT ⊢;simp only at KT ⊢;by_cases h45:b=45
 ·subst h45;rw[if_pos rfl];go_enter func104,ntmps104;go_wp2;go_ret;exact SC
 ·rw[if_neg h45];have h45':(b==45)=false:=by simpa using h45
  cases X
  ·rw[Bool.false_and];clear hb h45;go_enter func104,ntmps104;go_wp2_with(go_at_call 136;(with_reducible refine(KT.out _ (bel (A0 _ _) (A0 _ _))).mono ?_);rintro e w1 ⟨rfl,hb1⟩;have f0:∀o,(w1.alloc o).cell? ⟨w.heap.size+1,0,none⟩=some (.int .i64 dk):=(fun o=>kc (bel hb1 (A0 _ _)) sG);have f1:∀o,(w1.alloc o).cell? ⟨w.heap.size+1,1,none⟩=some (.int .i64 dp):=(fun o=>kc (bel hb1 (A0 _ _)) sG);have HB1:Hid _:=hb1;clear hb1);go_ret;exact⟨rfl,bel (bel (A0 _ _) (A0 _ _)) (bel HB1.out (A0 _ _))⟩
  ·rw[Bool.true_and];rcases hb with rfl|rfl|rfl|rfl|rfl|rfl|rfl|rfl
   ·exact absurd rfl h45
   all_goals clear h45 h45'
   all_goals
    cases h1:(K==1)
    all_goals
     by_cases hkd:K=dk
     ·subst hkd;by_cases hpd:P=dp
      ·subst hpd;go_enter func104,ntmps104;go_wp2_with(go_at_call 136;(with_reducible refine(KT.out _ (bel (A0 _ _) (A0 _ _))).mono ?_);rintro e w1 ⟨rfl,hb1⟩;have f0:∀o,(w1.alloc o).cell? ⟨w.heap.size+1,0,none⟩=some (.int .i64 K):=(fun o=>kc (bel hb1 (A0 _ _)) sG);have f1:∀o,(w1.alloc o).cell? ⟨w.heap.size+1,1,none⟩=some (.int .i64 P):=(fun o=>kc (bel hb1 (A0 _ _)) sG);have HB1:Hid _:=hb1;clear hb1);exact Zdl
      ·go_enter func104,ntmps104;go_wp2_with(go_at_call 136;(with_reducible refine(KT.out _ (bel (A0 _ _) (A0 _ _))).mono ?_);rintro e w1 ⟨rfl,hb1⟩;have f0:∀o,(w1.alloc o).cell? ⟨w.heap.size+1,0,none⟩=some (.int .i64 K):=(fun o=>kc (bel hb1 (A0 _ _)) sG);have f1:∀o,(w1.alloc o).cell? ⟨w.heap.size+1,1,none⟩=some (.int .i64 dp):=(fun o=>kc (bel hb1 (A0 _ _)) sG);have HB1:Hid _:=hb1;clear hb1);exact Zdl
     ·go_enter func104,ntmps104;go_wp2_with(go_at_call 136;(with_reducible refine(KT.out _ (bel (A0 _ _) (A0 _ _))).mono ?_);rintro e w1 ⟨rfl,hb1⟩;have f0:∀o,(w1.alloc o).cell? ⟨w.heap.size+1,0,none⟩=some (.int .i64 dk):=(fun o=>kc (bel hb1 (A0 _ _)) sG);have f1:∀o,(w1.alloc o).cell? ⟨w.heap.size+1,1,none⟩=some (.int .i64 dp):=(fun o=>kc (bel hb1 (A0 _ _)) sG);have HB1:Hid _:=hb1;clear hb1);exact Zdl
section
open Go.RowKit Go.Shelf Go.Proofs.Tryz
def YX:Go.Shelf.Ren:=⟨fun|125=>138|128=>160|129=>161|n=>n,fun|3=>3|4=>4|5=>5|9=>9|46=>192|51=>42|53=>191|n=>n,fun n=>n⟩
theorem TH:Lays.n125 prog YX where
 mixed:=kR
 f125:=func138.trans (congrArg some kR)
 f128:=func160.trans (congrArg some kR)
 f129:=func161.trans (congrArg some kR)
 t3:=underlying3
 a3:=Tryz.isAgg3
 z3:=Tryz.sizeOf3
 v3:=Tryz.zeroValue3
 t4:=underlying4
 a4:=Tryz.isAgg4
 z4:=Tryz.sizeOf4
 v4:=Tryz.zeroValue4
 t5:=underlying5
 a5:=Tryz.isAgg5
 z5:=Tryz.sizeOf5
 v5:=Tryz.zeroValue5
 t9:=underlying9
 a9:=Tryz.isAgg9
 z9:=Tryz.sizeOf9
 v9:=Tryz.zeroValue9
 t46:=underlying192
 a46:=Tryz.isAgg192
 z46:=Tryz.sizeOf192
 v46:=Tryz.zeroValue192
 t51:=underlying42
 a51:=Tryz.isAgg42
 z51:=Tryz.sizeOf42
 v51:=Tryz.zeroValue42
 t53:=underlying191
 a53:=Tryz.isAgg191
 z53:=Tryz.sizeOf191
 v53:=Tryz.zeroValue191
theorem M7:∀f x:Nat,x<2^f->Lib.bitLenAux f x=C6 x
 |0,x,h=>by
  have:x=0:=by simpa using h
  subst this;rfl
 |f+1,x,h=>by
  unfold Lib.bitLenAux;by_cases c:x=0
  ·rw[if_pos c,c];rfl
  ·rw[if_neg c,M7 f (x/2) (by rw[Nat.pow_succ]at h;omega),Ju x c];omega
theorem Xa(x:Int)(h0:0<=x)(h1:x<=18446744073709551615)(w:World):
 Calls prog 138 #[.int .u64 x] w fun e w'=>e=.returned (.int .i64 (C6 x.toNat))/\w'=w:=by
 have h:=Any.bits_Len TH x w h0 h1;have e:Lib.bitLen x.toNat=C6 x.toNat:=by
  unfold Lib.bitLen;exact M7 64 _ (by have:(2:Nat)^64=18446744073709551616:=rfl;omega)
 rw[e]at h;exact h
end
def O8(x n:Int):Nat->Int->Int
 |0,r=>r
 |k+1,r=>O8 x n k (if n/2^k%2=1 then DR (DR r r) x else DR r r)
def Gg(x n:Int):Int:=if n<1 then 1065353216 else O8 x n (C6 n.toNat-1) (canon x)
theorem O9(x n:Int):∀ (k:Nat) (r:Int),0<=r->r<4294967296->0<=O8 x n k r/\O8 x n k r<4294967296
 |0,r,h0,h1=>⟨h0,h1⟩
 |k+1,r,h0,h1=>by
  unfold O8;split
  ·exact O9 x n k _ (Dn _ _).1 (Dn _ _).2
  ·exact O9 x n k _ (Dn _ _).1 (Dn _ _).2
theorem Wz(x n:Int)(h0:0<=x)(h1:x<4294967296):0<=Gg x n/\Gg x n<4294967296:=by
 unfold Gg;split
 ·decide
 ·exact O9 x n _ _ (Dy x h0 h1).1 (Dy x h0 h1).2
theorem Pl(n:Int)(h0:0<=n)(h1:n<=9223372036854775807)(i:Nat):bits .and .i64 (n/2^i) 1=n/2^i%2:=by
 have e:n/2^i=((n.toNat/2^i:Nat):Int):=by
  rw[Int.natCast_ediv,Int.natCast_pow,Int.toNat_of_nonneg h0];rfl
 have hle:n.toNat/2^i<=n.toNat:=Nat.div_le_self ..;rw[e];generalize n.toNat/2^i=q at *;have hx:q&&& 1=q%2:=Nat.and_one_is_mod q;show IntKind.i64.wrap ((BitVec.ofInt 64 (q:Int)&&& BitVec.ofInt 64 ((1:Nat):Int)).toNat:Int)=_;rw[BitVec.toNat_and,ofInt_u64 q oM,ofInt_u64 1 dE,hx,IntKind.wrap_i64];omega
theorem XE(x:Int)(h0:0<=x)(h1:x<4294967296)(n:Int)(n0: -9223372036854775808<=n)(n1:n<=9223372036854775807)(w:World):
 Calls prog 109 #[.int .u32 x,.int .i64 n] w fun e w'=>e=.returned (.int .u32 (Gg x n))/\Below w.heap.size w w':=by
 unfold Gg;by_cases c:n<1
 ·rw[if_pos c];go_enter func109,ntmps109;go_wp2;go_ret;exact⟨rfl,Ch _⟩
 ·rw[if_neg c];have hc:=Dy x h0 h1;have hc':0<=canon x/\canon x<4294967296:=hc;clear hc;have hB:1<=C6 n.toNat/\C6 n.toNat<=63:=by
   exact Zfd
  generalize hBB:C6 n.toNat=B at *;generalize hP:O8 x n (B-1) (canon x)=P at *;have HP:Hid (O8 x n (B-1) (canon x)=P):=hP;clear hP;go_enter func109,ntmps109;go_wp2_with(first
   |(go_at_call 101;refine(Cn _ oM oM _).mono ?_;rintro e w' ⟨rfl,hw'⟩;obtain rfl:=hw'.symm)
   |(go_at_call 138;refine(Xa _ oM oM _).mono ?_;rintro e w' ⟨rfl,hw'⟩;obtain rfl:=hw'.symm))
  go_loopw [5,6] (fun rv pv wr=>Below w.heap.size w wr/\∃ (j:Nat) (r:Int),j<=62/\rv=.int .u32 r/\pv=.int .i64 ((j:Int)-1)/\0<=r/\r<4294967296/\O8 x n j r=P) (fun _ pv _=>(intOf pv+1).toNat)
  case atStart=>exact⟨Ch _,B-1,canon x,oM,rfl,by rw[show((B-1:Nat):Int)-1=(B:Int)-2 by omega],hc'.1,hc'.2,HP.out⟩
  case round=>
   obtain⟨hbel,j,r,hj,rfl,rfl,r0,r1,hr⟩:=hrel;have HR:Hid (O8 x n j r=P):=hr;clear hr;rcases Nat.eq_zero_or_pos j with hz|hz
   ·subst hz;have hPr:r=P:=HR.out;subst hPr;clear HR HP;go_wp2;go_ret;exact⟨rfl,hbel⟩
   ·obtain⟨i,rfl⟩:∃i,j=i+1:=⟨j-1,oM⟩
    rw[show((i+1:Nat):Int)-1=(i:Int) by omega];have hbit:=Pl n oM n1 i;have l1:=Dn r r;have l2:=Dn (DR r r) x;by_cases cb:n/2^i%2=1
    ·go_wp2_with(go_at_call 139;refine(Li _ oM oM _ oM oM _).mono ?_;rintro e w2 ⟨rfl,hb2⟩);exact Zdp
    ·go_wp2_with(go_at_call 139;refine(Li _ oM oM _ oM oM _).mono ?_;rintro e w2 ⟨rfl,hb2⟩);exact Zdq
theorem UO(x:Int)(h0:0<=x)(h1:x<4294967296)(n:Int)(n0: -9223372036854775808<=n)(n1:n<=9223372036854775807)(w:World):
 Calls prog 79 #[.int .i64 x,.int .i64 n] w fun e w'=>e=.returned (.int .i64 (Gg x n))/\Below w.heap.size w w':=by
 unfold Gg;by_cases c:n<1
 ·rw[if_pos c];go_enter func79,ntmps79;go_wp2;go_ret;exact⟨rfl,Ch _⟩
 ·rw[if_neg c];have hc:=Dy x h0 h1;have hc':0<=canon x/\canon x<4294967296:=hc;clear hc;have hB:1<=C6 n.toNat/\C6 n.toNat<=63:=by
   exact Zfd
  generalize hBB:C6 n.toNat=B at *;generalize hP:O8 x n (B-1) (canon x)=P at *;have HP:Hid (O8 x n (B-1) (canon x)=P):=hP;clear hP;go_enter func79,ntmps79;go_wp2_with(first
   |(go_at_call 103;refine(Fl _ oM oM _).mono ?_;rintro e w1 ⟨rfl,hb1⟩)
   |(go_at_call 122;refine(EQ _ oM oM _).mono ?_;rintro e w' ⟨rfl,hw'⟩;obtain rfl:=hw'.symm))
  go_loopw [5,6] (fun rv pv wr=>Below w.heap.size w wr/\∃ (j:Nat) (r:Int),j<=62/\rv=.int .i64 r/\pv=.int .i64 ((j:Int)-1)/\0<=r/\r<4294967296/\O8 x n j r=P) (fun _ pv _=>(intOf pv+1).toNat)
  case atStart=>exact⟨hb1,B-1,canon x,oM,rfl,by rw[show((B-1:Nat):Int)-1=(B:Int)-2 by omega],hc'.1,hc'.2,HP.out⟩
  case round=>
   obtain⟨hbel,j,r,hj,rfl,rfl,r0,r1,hr⟩:=hrel;have HR:Hid (O8 x n j r=P):=hr;clear hr;rcases Nat.eq_zero_or_pos j with hz|hz
   ·subst hz;have hPr:r=P:=HR.out;subst hPr;clear HR HP;go_wp2;go_ret;exact⟨rfl,hbel⟩
   ·obtain⟨i,rfl⟩:∃i,j=i+1:=⟨j-1,oM⟩
    rw[show((i+1:Nat):Int)-1=(i:Int) by omega];have hbit:=Pl n oM n1 i;have l1:=Dn r r;have l2:=Dn (DR r r) x;by_cases cb:n/2^i%2=1
    ·go_wp2_with(go_at_call 123;refine(IN _ oM oM _ oM oM _).mono ?_;rintro e w2 ⟨rfl,hb2⟩);exact Zdp
    ·go_wp2_with(go_at_call 123;refine(IN _ oM oM _ oM oM _).mono ?_;rintro e w2 ⟨rfl,hb2⟩);exact Zdq
theorem DH(a:Int)(h0:0<=a)(h1:a<4294967296)(w:World):Calls prog 63 #[.int .u32 a] w fun e w'=>e=.returned (.bool (Cj a))/\Below w.heap.size w w':=by
 have hc:Cj a=(canon a==a):=by unfold Cj canon;cases nan a<;>rw[Bool.eq_iff_iff]<;>simp
 rw[hc];have HK:Hid (∀w,Calls prog 103 #[.int .i64 a] w fun e w'=>e=.returned (.int .i64 (canon a))/\Below w.heap.size w w'):=Fl a h0 h1;have hw:IntKind.i64.wrap a=a:=by rw[IntKind.wrap_i64];omega
 clear hc;obtain⟨x,hx⟩:∃x,canon a=x:=⟨_,rfl⟩
 rw[hx]at HK ⊢;clear hx;go_enter func63,ntmps63;go_wp2_with(go_at_call 103;refine(HK.out _).mono ?_;rintro e w1 ⟨rfl,hb1⟩;have HB1:Hid _:=hb1;clear hb1);go_ret;exact⟨rfl,HB1.out⟩
theorem LG(s:Sl)(h0:0<=s.bits)(h1:s.bits<4294967296)(p:Option Addr)(n c:Nat)(hn:n<=140737488351232)(w:World):
 Calls prog 36 #[Se s,.slice p n c] w fun e w'=>e=.returned (.bool (AP s n))/\Below w.heap.size w w':=by
 have HK:Hid (∀w,Calls prog 63 #[.int .u32 s.bits] w fun e w'=>e=.returned (.bool (Cj s.bits))/\Below w.heap.size w w'):=DH s.bits h0 h1;have HT:Hid (∀w,Calls prog 35 #[Dp s.ty,.slice p n c] w fun e w'=>e=.returned (.bool (At s.ty n))/\Below w.heap.size w w'):=GA s.ty p n c hn;obtain⟨⟨K,P⟩,Q,B,I⟩:=s;unfold AP Ed Se CF;unfold Dp at HT;simp only at HK HT h0 h1 ⊢;obtain⟨X,hX⟩:∃X,Cj B=X:=⟨_,rfl⟩
 obtain⟨Y,hY⟩:∃Y,At ⟨K,P⟩ n=Y:=⟨_,rfl⟩
 rw[hX]at HK ⊢;rw[hY]at HT ⊢;clear hX hY;cases Y
 ·rw[Bool.false_and];exact Zbp
 ·rw[Bool.true_and];by_cases h2:K=2
  ·subst h2;rw[if_pos rfl];cases hb:(B==0)
   ·have hb':(B != 0)=true:=by simpa using hb
    exact Zbq
   ·by_cases hi:0<=I
    all_goals
     exact Zbq
  ·rw[if_neg h2];have h2':(K==2)=false:=by simpa using h2
   clear h2;cases hi:(I==0)
   all_goals
    exact Zbp
instance:DecidableEq BO:=fun a b=>by
 cases a;cases b
 simp only[BO.mk.injEq];exact inferInstanceAs (Decidable (_/\_/\_))

theorem U4:∀x:BO,∀u∈AW x,u.oneCell'=true:=fun x u hu=>by simp[AW]at hu;rcases hu with rfl|rfl|rfl<;>rfl
theorem Y9:∀x:Ty,∀u∈Nh x,u.oneCell'=true:=fun x u hu=>by simp[Nh]at hu;rcases hu with rfl|rfl<;>rfl
theorem Y1:∀x:Sl,∀u∈LL x,u.oneCell'=true:=fun x u hu=>by simp[LL]at hu;rcases hu with rfl|rfl|rfl|rfl|rfl<;>rfl
theorem Rc:(prog.info? 69).map (fun i=>(i.zero,i.size,i.bytes))=some (some (.agg #[.int .i64 0,.int .i64 0]),2,16):=kR
theorem Rb:(prog.info? 72).map (fun i=>(i.zero,i.size,i.bytes))=some (some (.agg #[.int .i64 0,.int .i64 0,.bool false,.int .u32 0,.int .i64 0]),5,32):=kR
def f4(a b c d:Value)(j:Nat):Value:=if j=0 then a else if j=1 then b else if j=2 then c else d
structure Yz(c:Cd):Prop where
 s:c.sign.length*32<=140737488351232
 r:c.regs.length*16<=140737488351232
 l:c.slots.length*32<=140737488351232
 i:c.list.length*56<=140737488351232
end Go.Proofs.YtbinohkcolcbfaaGreat
