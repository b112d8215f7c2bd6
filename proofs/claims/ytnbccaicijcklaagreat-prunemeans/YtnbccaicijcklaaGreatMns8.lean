import Derived.Test.YtnbccaicijcklaaGreatMns1
import Derived.Test.YtnbccaicijcklaaGreatMns6
import Derived.Test.YtnbccaicijcklaaGreatMns5
import Derived.Test.YtnbccaicijcklaaGreatMns2
namespace Go.Proofs.YtnbccaicijcklaaGreat
open Go.RowKit Go.Proofs.Tryz
set_option linter.all false
set_option maxRecDepth 100000
set_option maxHeartbeats 16000000
theorem EX:(prog.info? 4).map (fun i=>(i.zero,i.size,i.bytes))=some (some (.bool false),1,1):=kR
theorem JT(m:Nat)(h:m<=70368744177664)(w:World):(Instr.makeSlice 36 (.int .i64 m) (.int .i64 m)).run prog w=.ok (.slice (some ⟨w.heap.size,0,none⟩) m m) (w.alloc (.cells (madeCells #[.bool false] m) 4)):=
 run_make_row' (P:=prog) 36 4 (.bool false) 1 underlying36 EX rfl .i64 .i64 m oM oM w
theorem WS.start(w:World)(C n:Nat):WS w.heap.size (w.heap.size+1) C n w.heap.size (.slice none 0 0) (.slice none 0 0) ((w.alloc (.cells (madeCells #[.bool false] n) 4)).alloc (.cells #[.pointer (some ⟨C,0,none⟩),.slice (some ⟨w.heap.size,0,none⟩) n n,.slice none 0 0,.slice none 0 0] 82)) ⟨[],[]⟩:=by
 have h1:=(World.rowIs_made w (.bool false) n 4).alloc (.cells #[.pointer (some ⟨C,0,none⟩),.slice (some ⟨w.heap.size,0,none⟩) n n,.slice none 0 0,.slice none 0 0] 82);have h2:=World.rowIs_alloc (w.alloc (.cells (madeCells #[.bool false] n) 4)) #[.pointer (some ⟨C,0,none⟩),.slice (some ⟨w.heap.size,0,none⟩) n n,.slice none 0 0,.slice none 0 0] 82 (wkF C w.heap.size n (.slice none 0 0) (.slice none 0 0)) (fun i hi=>by
  have hi':i<4:=hi;obtain rfl|rfl|rfl|rfl:i=0\/i=1\/i=2\/i=3:=oM
  all_goals rfl)
 have hs:(w.alloc (.cells (madeCells #[.bool false] n) 4)).heap.size=w.heap.size+1:=sM;rw[hs]at h2;exact⟨h2,h1.congr fun j _=>by simp,World.ownsRow_nil _ _ _ 1,World.ownsRow_nil _ _ _ 3,oM,gF _,oM,by simp[Value.ownBlock],by simp[Value.ownBlock],by simp[Value.ownBlock],by simp[Value.ownBlock],by simp[Value.ownBlock]⟩
theorem Lo(v0 v1 v2 v3:Value)(c:Cd)(hk:Ba c)(w:World)(hv:CD w v0 v1 v2 v3 c):
 Calls prog 12 #[.agg #[v0,v1,v2,v3]] w fun e w'=>e=.returned (.tuple #[.int .i64 (Ai c).1,.int .i64 (Ai c).2])/\Below w.heap.size w w':=by
 have hat:Cm (w.alloc (.cells #[v0,v1,v2,v3] 27)) w.heap.size v0 v1 v2 v3 c:=by
  refine⟨fun j hj=>?_,hv.below (A0 _ _)⟩;have hj':j<4:=hj;obtain rfl|rfl|rfl|rfl:j=0\/j=1\/j=2\/j=3:=oM
  all_goals simp[go_sem]
 have K1:=JE w.heap.size v0 v1 v2 v3 c hk _ hat;unfold Ai;obtain⟨A,hA⟩:=gA (CF c)
 rw[hA]at K1 |-;have HK1:Hid (Calls prog 26 #[.pointer (some ⟨w.heap.size,0,none⟩)] (w.alloc (.cells #[v0,v1,v2,v3] 27)) fun e w'=>e=.returned (.int .i64 A)/\Below (w.alloc (.cells #[v0,v1,v2,v3] 27)).heap.size (w.alloc (.cells #[v0,v1,v2,v3] 27)) w'):=K1;clear K1;by_cases h0:A=0
 .rw[if_neg (by simp[h0])];have hsz:c.regs.length<=16384/\c.list.length<=32768/\Ax c=true:=by
   rw[h0]at hA;unfold CF at hA;split at hA
   .rename_i e1;exact absurd hA e1
   .split at hA
    .exact absurd hA dE
    .split at hA
     .exact absurd hA dE
     .split at hA
      .rename_i e1 e2 e3 e4;simp only[Bool.and_eq_true]at e4;exact⟨oM,oM,e4.1⟩
      .exact absurd hA dE
  obtain⟨hn,hN,htm⟩:=hsz;clear hA;subst h0;have KT:=fun E G gi vs vo s b o i w h ok hc hi hb hb0 hb1=>OR E G w.heap.size c.regs.length gi vs vo s v0 v1 v2 v3 c hk b o i w h rfl ok hn hc hi hb htm hb0 hb1;clear KT;have hr:=hv.list;obtain⟨p3,q3,rfl,hr3⟩:=hv.list;obtain⟨p1,q1,rfl,hr1⟩:=hv.regs;have HAT:Hid (Cm (w.alloc (.cells #[v0,.slice p1 c.regs.length q1,v2,.slice p3 c.list.length q3] 27)) w.heap.size v0 (.slice p1 c.regs.length q1) v2 (.slice p3 c.list.length q3) c):=hat;obtain⟨Pr,hPr⟩:∃P,L6 c ⟨[],[]⟩ 0 c.list=P:=⟨_,rfl⟩
  rw[hPr];have HP:Hid (L6 c ⟨[],[]⟩ 0 c.list=Pr):=hPr;have HROW:Hid (AV 7 C9 w (.slice p3 c.list.length q3) c.list):=hr;have HIB:Hid (∀i∈c.list,0<=i.bits/\i.bits<4294967296):=hk.ibits;obtain⟨n,hnn⟩:=gA (c.regs.length)
  obtain⟨N,hNN⟩:=gA (c.list.length)
  have HNE:Hid (c.regs.length=n):=hnn;have HNL:Hid (c.list.length=N):=hNN;rw[hnn]at hn HK1 HAT;rw[hNN]at hN HK1 HAT HROW;rw[hnn,hNN];have mk:=fun w=>JT n oM w;have HOKC:Hid (Ba c):=hk;have HTM:Hid (Ax c=true):=htm;have f1:=HAT.1.at 1 rfl;have f3:=HAT.1.at 3 rfl;rw[Nat.zero_add]at f1 f3;have HC:Hid (∀v,Below (w.alloc (.cells #[v0,.slice p1 n q1,v2,.slice p3 N q3] 27)).heap.size (w.alloc (.cells #[v0,.slice p1 n q1,v2,.slice p3 N q3] 27)) v->v.cell? ⟨w.heap.size,1,none⟩=some (.slice p1 n q1)/\v.cell? ⟨w.heap.size,3,none⟩=some (.slice p3 N q3)):=fun v hv=>⟨kc hv f1,kc hv f3⟩
  clear hat hv hr hr3 hr1 hPr hnn hNN hk htm f1 f3;go_enter func12,ntmps12;go_wp2_with(go_at_call 26;refine HK1.mono ?_;rintro e w1 ⟨rfl,hb1⟩;obtain⟨g1,g3⟩:=HC.out w1 hb1;have g4:((w1.alloc (.cells (madeCells #[.bool false] n) 4)).alloc (.cells #[.pointer (some ⟨w.heap.size,0,none⟩),.slice (some ⟨w1.heap.size,0,none⟩) n n,.slice none 0 0,.slice none 0 0] 82)).cell? ⟨w.heap.size,3,none⟩=some (.slice p3 N q3):=kc (A0 _ _) (kc (A0 _ _) g3));have HB1:Hid (Below w.heap.size w w1):=bel (A0 _ _) hb1;have HAT1:Hid (Cm w1 w.heap.size v0 (.slice p1 n q1) v2 (.slice p3 N q3) c):=HAT.below hb1;have hs1:w.heap.size<w1.heap.size:=by have:=hb1.size;simp at this;omega
  have HS0:=WS.start w1 w.heap.size n;have HB0:Below w1.heap.size w1 ((w1.alloc (.cells (madeCells #[.bool false] n) 4)).alloc (.cells #[.pointer (some ⟨w.heap.size,0,none⟩),.slice (some ⟨w1.heap.size,0,none⟩) n n,.slice none 0 0,.slice none 0 0] 82)):=bel (A0 _ _) (A0 _ _);obtain⟨W2,hW2⟩:=gA ((w1.alloc (.cells (madeCells #[.bool false] n) 4)).alloc (.cells #[.pointer (some ⟨w.heap.size,0,none⟩),.slice (some ⟨w1.heap.size,0,none⟩) n n,.slice none 0 0,.slice none 0 0] 82))
  rw[hW2]at HS0 HB0;try rw[hW2]
  clear HK1 HC hb1 mk HAT g4 hW2
  go_loopw [19] (fun iv wr=>∃ (j:Nat) (s:Wk) (vs vo:Value),j<=N/\iv=.int .i64 j/\Below w1.heap.size w1 wr/\WS w1.heap.size (w1.heap.size+1) w.heap.size n w1.heap.size vs vo wr s/\E5 n s/\Hid (L6 c s j (c.list.drop j)=Pr)) (fun iv _=>N-(intOf iv).toNat)
  case atStart=>exact⟨0,⟨[],[]⟩,_,_,gI _,rfl,HB0,HS0,E5.start n,by show _=_;rw[List.drop_zero];exact HP.out⟩
  case round=>
   obtain⟨j,s,vs,vo,hj,rfl,hb,hws,hok,hgo⟩:=hrel;have HWS:Hid (WS w1.heap.size (w1.heap.size+1) w.heap.size n w1.heap.size vs vo wr s):=hws;have HOK:Hid (E5 n s):=hok;have HBW:Hid (Below w1.heap.size w1 wr):=hb;have d3:=kc hb g3;have l3:=hws.c3;have hol:∃p q,vo=.slice p s.opens.length q:=AZ hws.opn;have hnest:=hok.nest;clear HS0 HB0;by_cases hlt:j<N
   .have hll:j<c.list.length:=by rw[HNL.out];exact hlt
    have hgo':=hgo.out;rw[List.drop_eq_getElem_cons hll]at hgo';have hgi:L6 c s j (c.list[j]::c.list.drop (j+1))=if AG c s c.list[j]then L6 c (Aj s c.list[j]) (j+1) (c.list.drop (j+1))else(160,(j:Int)):=rfl;rw[hgi]at hgo';obtain⟨b,o,rfl,hx⟩:=HROW.at hll;have hbw:b<w.heap.size:=A8 (hx 0 (by simp[C9]));have hxw:=(hx.below HB1.out).below hb;have KT:=OR w1.heap.size (w1.heap.size+1) w.heap.size n w1.heap.size vs vo s v0 (.slice p1 n q1) v2 (.slice (some ⟨b,o,none⟩) N q3) c HOKC.out b (o+j*7) c.list[j] wr hws HNE.out hok hn (HAT1.below hb) hxw oM HTM.out (HIB.out _ (gD hll)).1 (HIB.out _ (gD hll)).2;have hokS:AG c s c.list[j]=true->E5 n (Aj s c.list[j]):=fun ht=>by
     have hq:E5 c.regs.length s:=by rw[HNE.out];exact hok
     have:=E5.step hq ht;rw[HNE.out]at this;exact this
    obtain⟨X,hX⟩:=gA (AG c s c.list[j])
    rw[hX]at hgo' hokS;simp only[hX]at KT;have HKT:Hid (Calls prog 27 #[.pointer (some ⟨w1.heap.size+1,0,none⟩),.pointer (some ⟨b,o+j*7,none⟩)] wr fun e w'=>e=.returned (.bool X)/\Below w1.heap.size wr w'/\(X=true->∃vs' vo',WS w1.heap.size (w1.heap.size+1) w.heap.size n w1.heap.size vs' vo' w' (Aj s c.list[j]))):=KT;have HGO:Hid ((if X=true then L6 c (Aj s c.list[j]) (j+1) (c.list.drop (j+1))else(160,(j:Int)))=Pr):=hgo';have HOS:Hid (X=true->E5 n (Aj s c.list[j])):=hokS;have i1:(0:Int)<=(j:Int):=oM;have i2:(j:Int)<(N:Int):=oM;clear KT hgo hgo' hgi hokS hX hx hxw hws hok hb hol l3;cases X
    .go_wp2_with(go_at_call 27;refine HKT.mono ?_;rintro e w5 ⟨rfl,hb5,hw5⟩;have HB5:Hid (Below w1.heap.size wr w5):=hb5;clear hb5 hw5)
     go_ret2
     refine⟨?_,bel HB1.out (HBW.trans HB5.out)⟩;have:=HGO.out;rw[if_neg dE]at this;rw[<-this];rfl
    .go_wp2_with(go_at_call 27;refine HKT.mono ?_;rintro e w5 ⟨rfl,hb5,hw5⟩;have HB5:Hid (Below w1.heap.size wr w5):=hb5;have HW5:Hid (∃vs' vo',WS w1.heap.size (w1.heap.size+1) w.heap.size n w1.heap.size vs' vo' w5 (Aj s c.list[j])):=hw5 fT;clear hb5 hw5);go_roundw
     case rel=>
      obtain⟨vs',vo',hw5⟩:=HW5.out;exact⟨j+1,_,vs',vo',oM,gN,HBW.trans HB5.out,hw5,HOS.out fT,by show _=_;have:=HGO.out;rw[if_pos fT]at this;exact this⟩
     case measure=>simp[intOf];omega
   .have:j=N:=oM;subst this;have hgo':=hgo.out;rw[List.drop_of_length_le (by rw[HNL.out];exact gF _)]at hgo';have hgi:L6 c s j []=if s.opens.isEmpty then(0,0)else(160,(j:Int)):=rfl;rw[hgi]at hgo';obtain⟨p,q,rfl⟩:=hol;obtain⟨M,hM⟩:=gA (s.opens.length)
    rw[hM]at l3 hnest;have hE:s.opens.isEmpty=decide (M=0):=by
     rw[<-hM];cases s.opens with
     |nil=>rfl
     |cons a l=>simp
    rw[hE]at hgo';have HGO:Hid ((if decide (M=0)=true then((0:Int),(0:Int))else(160,(j:Int)))=Pr):=hgo';clear hgo hgo' hgi hE hM hws hok hb;by_cases hz:M=0
    .subst hz;go_wp2
     go_ret2
     refine⟨?_,bel HB1.out HBW.out⟩;rw[<-HGO.out];rfl
    .have hz':(0:Int)<(M:Int):=oM;have hz2:0<M:=oM;have HZ:Hid (¬M=0):=hz;clear hz;go_wp2;refine rG (fun v=>v.cell? ⟨w.heap.size,3,none⟩=some (.slice p3 j q3)) fun hJ=>?_;refine Tc 0 1 2 ?_;refine Tb 3 4 ?_;refine wpAnyH_done kR ?_ _;go_wp2
     go_ret2
     refine⟨?_,(bel HB1.out HBW.out).drew⟩;have:=HGO.out;rw[if_neg (by simpa using HZ.out)]at this;rw[<-this];rfl
 .rw[if_pos h0];have h0':(A==0)=false:=by simpa using h0
  go_enter func12,ntmps12;go_wp2_with(go_at_call 26;refine HK1.mono ?_;rintro e w1 ⟨rfl,hb1⟩)
  all_goals(go_ret2;exact⟨rfl,bel (A0 _ _) hb1⟩)
def Ch(i:Ad):Value:=.agg #[.int .i64 i.op,.int .i64 i.d,.int .i64 i.a,.int .i64 i.b,.int .i64 i.c,.int .i64 i.n,.int .u32 i.bits]
theorem Tk{w v:World}{i:Ad}{t:TypeId}(k:Below (w.alloc (.cells #[.int .i64 i.op,.int .i64 i.d,.int .i64 i.a,.int .i64 i.b,.int .i64 i.c,.int .i64 i.n,.int .u32 i.bits] t)).heap.size (w.alloc (.cells #[.int .i64 i.op,.int .i64 i.d,.int .i64 i.a,.int .i64 i.b,.int .i64 i.c,.int .i64 i.n,.int .u32 i.bits] t)) v):Ar v w.heap.size 0 (C9 i):=by
 refine Ar.below (fun j hj=>?_) k;have hj':j<7:=hj;obtain rfl|rfl|rfl|rfl|rfl|rfl|rfl:j=0\/j=1\/j=2\/j=3\/j=4\/j=5\/j=6:=oM
 all_goals simp[go_sem,C9]
theorem OG(i:Ad)(w:World):Calls prog 31 #[Ch i] w fun e w'=>e=.returned (.bool ((A4 i.op).d != 0))/\Below w.heap.size w w':=by
 have K1:=fun w=>Iy i.op w;obtain⟨r,hr⟩:=gA (A4 i.op)
 obtain⟨X,hX⟩:=gA (Al i.op)
 simp only[hr,hX]at K1 |-;obtain⟨L0,L1,L2,L3,L4⟩:=r;obtain⟨op,D,A,B,E,n,bt⟩:=i;unfold Ch;unfold DN at K1;simp only at K1 |-;have HK:Hid (∀w,Calls prog 48 #[.int .i64 op] w fun e w'=>e=.returned (.tuple #[.agg #[.int .i64 L0,.int .i64 L1,.int .i64 L2,.int .i64 L3,.int .i64 L4],.bool X])/\Below w.heap.size w w'):=K1;clear K1 hr hX;go_enter func31,ntmps31;go_wp2_with(go_at_call 48;refine(HK.out _).mono ?_;rintro e w1 ⟨rfl,hb1⟩);go_ret;exact⟨rfl,bel (bel (A0 _ _) hb1) (A0 _ _)⟩
theorem LZ(i:Ad)(w:World):Calls prog 32 #[Ch i] w fun e w'=>∃v,e=.returned v/\w'.ownsRow w.heap.size 3 1 v (Ae i (A4 i.op)).length (Cg (Ae i (A4 i.op)))/\Below w.heap.size w w':=by
 have K1:=fun w=>Iy i.op w;have K2:=fun w h=>GU w.heap.size 0 i (A4 i.op) w h;clear K2;have K3:=fun b v h=>GU b 0 i (A4 i.op) v h;have HIC:=fun(v:World) k=>Tk (w:=w) (v:=v) (i:=i) (t:=40) k;obtain⟨r,hr⟩:=gA (A4 i.op)
 obtain⟨X,hX⟩:=gA (Al i.op)
 simp only[hr,hX]at K1 K3 |-;obtain⟨RL,hRL⟩:∃x,Ae i r=x:=⟨_,rfl⟩
 simp only[hRL]at K3 |-;obtain⟨L0,L1,L2,L3,L4⟩:=r;obtain⟨op,D,A,B,E,n,bt⟩:=i;unfold Ch;unfold DN at K1 K3;simp only at K1 K3 HIC |-;have HK:Hid (∀w,Calls prog 48 #[.int .i64 op] w fun e w'=>e=.returned (.tuple #[.agg #[.int .i64 L0,.int .i64 L1,.int .i64 L2,.int .i64 L3,.int .i64 L4],.bool X])/\Below w.heap.size w w'):=K1;have HK3:Hid (∀b v,Ar v b 0 (C9 ⟨op,D,A,B,E,n,bt⟩)->Calls prog 51 #[.agg #[.int .i64 L0,.int .i64 L1,.int .i64 L2,.int .i64 L3,.int .i64 L4],.pointer (some ⟨b,0,none⟩)] v fun e w'=>∃u,e=.returned u/\w'.ownsRow v.heap.size 3 1 u RL.length (Cg RL)/\Below v.heap.size v w'):=K3;have HCC:Hid (∀v,Below (w.alloc (.cells #[.int .i64 op,.int .i64 D,.int .i64 A,.int .i64 B,.int .i64 E,.int .i64 n,.int .u32 bt] 40)).heap.size (w.alloc (.cells #[.int .i64 op,.int .i64 D,.int .i64 A,.int .i64 B,.int .i64 E,.int .i64 n,.int .u32 bt] 40)) v->Ar v w.heap.size 0 (C9 ⟨op,D,A,B,E,n,bt⟩)):=HIC;clear K1 K3 HIC hr hX hRL;go_enter func32,ntmps32;go_wp2_with(first
  |(go_at_call 48;refine(HK.out _).mono ?_;rintro e w1 ⟨rfl,hb1⟩)
  |(go_at_call 51;refine(HK3.out _ _ (HCC.out _ (bel hb1 (A0 _ _)))).mono ?_;rintro e w2 ⟨u,rfl,hu,hb2⟩;have HU:Hid (w2.ownsRow (w1.alloc (.cells #[.int .i64 L0,.int .i64 L1,.int .i64 L2,.int .i64 L3,.int .i64 L4] 119)).heap.size 3 1 u RL.length (Cg RL)):=hu;have HB2:Hid (Below w.heap.size w w2):=bel (bel (bel (A0 _ _) hb1) (A0 _ _)) hb2;have hs:w.heap.size<=(w1.alloc (.cells #[.int .i64 L0,.int .i64 L1,.int .i64 L2,.int .i64 L3,.int .i64 L4] 119)).heap.size:=(bel (bel (A0 _ _) hb1) (A0 _ _)).size;have HSZ:Hid (w.heap.size<=(w1.alloc (.cells #[.int .i64 L0,.int .i64 L1,.int .i64 L2,.int .i64 L3,.int .i64 L4] 119)).heap.size):=hs;clear hu hb2 hs))
 go_ret;exact⟨_,rfl,CM HU.out HSZ.out,HB2.out⟩
def Au{α:Type}(f:α->List Value)(l:List α):List Value:=l.flatMap f
theorem Dy{α:Type}{f:α->List Value}{k:Nat}(hf:∀x,(f x).length=k):∀l:List α,(Au f l).length=l.length*k
 |[]=>by simp[Au]
 |a::l=>by
  have e:Au f (a::l)=f a++Au f l:=by simp[Au]
  rw[e,List.length_append,Dy hf l,hf,List.length_cons,Nat.add_mul,Nat.one_mul,Nat.add_comm]
theorem Gk{α:Type}{f:α->List Value}{k:Nat}(hf:∀x,(f x).length=k):∀ (l:List α) (i j:Nat) (hi:i<l.length),j<k->(Au f l)[i*k+j]? =(f l[i])[j]?
 |[],i,j,hi,hj=>absurd hi (Nat.not_lt_zero _)
 |a::l,0,j,hi,hj=>by
  have e:Au f (a::l)=f a++Au f l:=by simp[Au]
  rw[e,Nat.zero_mul,Nat.zero_add,List.getElem?_append_left (by rw[hf];exact hj)];rfl
 |a::l,i+1,j,hi,hj=>by
  have e:Au f (a::l)=f a++Au f l:=by simp[Au]
  have e2:(i+1)*k+j-(f a).length=i*k+j:=by rw[hf,Nat.add_mul,Nat.one_mul];omega
  rw[e,List.getElem?_append_right (by rw[hf,Nat.add_mul,Nat.one_mul];omega),e2];exact Gk hf l i j (by simpa using hi) hj
theorem FS{α:Type}(f:α->List Value)(l m:List α):Au f (l++m)=Au f l++Au f m:=by simp[Au]
theorem Du{α:Type}{f:α->List Value}{k:Nat}(hf:∀x,(f x).length=k){w:World}{B:Nat}{t:TypeId}{v:Value}{l:List α}(h:w.ownsRow B t k v l.length (Au f l)):AV k f w v l:=by
 by_cases h0:l=[]
 .subst h0;obtain⟨p,c,hv⟩:=AZ h;exact⟨p,c,hv,.inl rfl⟩
 .obtain⟨g,cap,hv,_,_,_,_,hcl⟩:=Dc h (List.length_pos_iff.2 h0);refine⟨_,cap,hv,.inr ⟨g,0,rfl,fun i hi j hj=>?_⟩⟩;rw[Nat.zero_add];exact hcl _ _ (by rw[Gk hf l i j hi (by rw[<-hf l[i]];exact hj)];exact gB hj)
theorem Nl(b o j:Nat):(⟨b,o,none⟩:Addr).add j=⟨b,o+j,none⟩:=by unfold Addr.add;split<;>simp_all
theorem M7{α:Type}{f:α->List Value}{k:Nat}(hk:0<k)(hf:∀x,(f x).length=k){w:World}{b o:Nat}{l:List α}(h:∀i (hi:i<l.length),Ar w b (o+i*k) (f l[i]))(j:Nat)(u:Value)(hu:(Au f l)[j]? =some u):w.cell? ((⟨b,o,none⟩:Addr).add j)=some u:=by
 have hj:j<l.length*k:=by have:=(List.getElem?_eq_some_iff.1 hu).1;rwa[Dy hf]at this
 have hi:j/k<l.length:=Nat.div_lt_of_lt_mul (by rw[Nat.mul_comm];exact hj);have hm:j%k<k:=Nat.mod_lt _ hk;have e:j=j/k*k+j%k:=by rw[Nat.mul_comm];exact(Nat.div_add_mod j k).symm
 rw[e,Gk hf l _ _ hi hm]at hu;rw[Nl];have:=(h _ hi).at _ hu;rw[Nat.add_assoc,<-e]at this;exact this
theorem Nt{α:Type}{f:α->List Value}{k bytes:Nat}{t e:TypeId}{z:Value}{i:TypeInfo}(hk:0<k)(hf:∀x,(f x).length=k)(h1:∀x,∀u∈f x,u.oneCell'=true)(ht:prog.underlying t=some (.slice e))(hi:prog.info? e=some i)(hz:i.zero=some z)(hsize:i.size=k)(hby:i.bytes=bytes)(hzs:z.cells.size=k)
 {l:List α} {v:Value} {w:World} (h:AV k f w v l) (hl:l.length<=maxLen) (hb:l.length*bytes<=140737488355328) (ty:TypeId):
 ∃v' w',(Builtin.append_ #[t,t] ty #[.slice none 0 0,v]).run prog w=.ok v' w'/\Below w.heap.size w w'/\w'.ownsRow w.heap.size e k v' l.length (Au f l):=by
 obtain⟨p,c,rfl,h⟩:=h;by_cases h0:l=[]
 .subst h0;refine⟨.slice none 0 0,w,?_,Below.refl _ _,⟨by simp[Au],.inl ⟨rfl,rfl⟩⟩⟩;exact Zdj
 .obtain⟨b,o,rfl,h2⟩:=h.resolve_left h0;have hpos:0<l.length:=List.length_pos_iff.2 h0;obtain⟨g,cap,w',hr,hown,hg,hat,hlt⟩:=run_append_lies (P:=prog) w t ty w.heap.size e i z k bytes ht hi hz hsize hby hzs hk (.slice none 0 0) 0 [] (World.ownsRow_nil w _ _ k) ⟨b,o,none⟩ l.length c (Au f l) (Dy hf l) (M7 hk hf h2) Zhb hpos oM (by rw[Nat.zero_add];exact hb) (gF _) w.heap.size rfl;rw[Nat.zero_add]at hr hown;exact⟨_,w',hr,⟨hg.os,hg.tape,hg.output,hg.size,fun j hj=>hg.block j hj (by show some j≠none;simp)⟩,by rw[List.nil_append]at hown;exact hown⟩
theorem AO{P:Program}{w w':World}{ops:Array Oper}{rest:List Oper}{o:Oper}{a:Act}{Q:Exit->Act->World->Prop}(hgd:o.guard=none)(s x:Operand)(t:TypeId)
 (ho:o.op=.call {callee:=.builtin .append,args:=#[s,x],argTypes:=#[t,t]}) (v v2 v':Value) (hs:a.eval s=v) (hx:a.eval x=v2) (hr:(Builtin.append_ #[t,t] o.type #[v,v2]).run P w=.ok v' w')
 (h:wpList P ops Q rest (a.put o.dst v') w'):wpList P ops Q (o::rest) a w:=
 wpList_plain hgd fun _ hK=>by
  unfold Oper.wp execOp;simp only[ho,resolve,invoke,builtin,Sem.run_bind,Sem.run_pure,Result.andThen_ok,List.map_toArray,List.map_cons,List.map_nil,hs,hx,hr];exact hK _ _ h
theorem Te:(prog.info? 40).map (fun i=>(i.zero,i.size,i.bytes))=some (some (.agg #[.int .i64 0,.int .i64 0,.int .i64 0,.int .i64 0,.int .i64 0,.int .i64 0,.int .u32 0]),7,56):=kR


def OF(i:Ad):Bool:=(A4 i.op).d != 0
theorem TM(op:Int)(w:World):Calls prog 88 #[.int .i64 op] w fun e w'=>e=.returned (.bool (Bq op))/\w'=w:=by
 unfold Bq;by_cases h:3<=op
 all_goals
  go_enter func88,ntmps88;exact Zeh
theorem u8ne(a:UInt8)(X:Bool)(h:(a==45)=X):((a.toNat:Int) != 45)= !X:=by
 rw[<-h];have:((a.toNat:Int)==45)=(a==45):=by
  rw[Bool.eq_iff_iff];simp only[beq_iff_eq];constructor
  .intro e;apply UInt8.toNat_inj.1;show a.toNat=45;omega
  .intro e;subst e;rfl
 simp[bne,this]
theorem Ma(i:Ad)(w:World):Calls prog 22 #[Ch i] w fun e w'=>e=.returned (.bool (OF i))/\Below w.heap.size w w':=by
 unfold OF;rcases Ov i.op (w.alloc (.cells #[.int .i64 i.op,.int .i64 i.d,.int .i64 i.a,.int .i64 i.b,.int .i64 i.c,.int .i64 i.n,.int .u32 i.bits] 40))with⟨hk,hc⟩|⟨hk,a,b,c,d,e,ht,hc⟩
 .rw[Hy i.op hk];obtain⟨op,D,A,B,E,n,bt⟩:=i;unfold Ch;simp only at hc hk |-;have HK:Hid (Calls prog 38 #[.int .i64 op] (w.alloc (.cells #[.int .i64 op,.int .i64 D,.int .i64 A,.int .i64 B,.int .i64 E,.int .i64 n,.int .u32 bt] 40)) fun e w'=>e=.returned (.tuple #[.string ⟨#[]⟩,.bool false])/\w'=w.alloc (.cells #[.int .i64 op,.int .i64 D,.int .i64 A,.int .i64 B,.int .i64 E,.int .i64 n,.int .u32 bt] 40)):=hc;clear hc;go_enter func22,ntmps22;go_wp2_with(go_at_call 38;refine HK.mono ?_;rintro e w1 ⟨rfl,rfl⟩);go_ret;exact⟨rfl,A0 _ _⟩
 .have h1:=u8ne a _ ht.a;obtain⟨X,hX⟩:=gA ((A4 i.op).d)
  rw[hX]at h1 |-;obtain⟨op,D,A,B,E,n,bt⟩:=i;unfold Ch;simp only at hc |-;have HK:Hid (∀w,Calls prog 38 #[.int .i64 op] w fun x w'=>x=.returned (.tuple #[.string ⟨#[a,b,c,d,e]⟩,.bool true])/\w'=w):=hc;have ix:∀w,(Instr.index 9 (.string ⟨#[a,b,c,d,e]⟩) (.int .i64 0)).run prog w=.ok (.int .u8 (a.toNat:Int)) w:=fun w=>by simp[Instr.index,run_underlying underlying9,asIntOf,go_sem];rfl
  clear hc ht hX;go_enter func22,ntmps22;go_wp2_with(go_at_call 38;refine(HK.out _).mono ?_;rintro e w1 ⟨rfl,rfl⟩);go_ret;refine⟨Ab ?_,A0 _ _⟩;first|exact h1|(simp only[h1];rfl)|simp[h1,bne]
structure RRd(w:World)(C Q:Nat)(A B E:Int)(v:World):Prop where
 bel:Below w.heap.size w v
 hC:w.heap.size<=C
 hQ:Q<C
 le:C<=v.heap.size
 g0:v.cell? ⟨Q,0,none⟩=some (.int .i64 A)
 g1:v.cell? ⟨Q,1,none⟩=some (.int .i64 B)
 g2:v.cell? ⟨Q,2,none⟩=some (.int .i64 E)
theorem RRd.next{w:World}{C Q:Nat}{A B E:Int}{v v':World}(h:RRd w C Q A B E v)(k:Below C v v'):RRd w C Q A B E v':=by
 have c1:∀ {a:Addr} {u:Value},a.block<C->v.cell? a=some u->v'.cell? a=some u:=fun ha hu=>(k.cell ha).trans hu;exact⟨h.bel.trans (k.mono h.hC),h.hC,h.hQ,gH h.le k.size,c1 h.hQ h.g0,c1 h.hQ h.g1,c1 h.hQ h.g2⟩
theorem Qr(i:Ad)(w:World):Calls prog 59 #[Ch i] w fun e w'=>∃v,e=.returned v/\w'.ownsRow w.heap.size 3 1 v (Ae i (A4 i.op)).length (Cg (Ae i (A4 i.op)))/\Below w.heap.size w w':=by
 rcases Ov i.op (w.alloc (.cells #[.int .i64 i.op,.int .i64 i.d,.int .i64 i.a,.int .i64 i.b,.int .i64 i.c,.int .i64 i.n,.int .u32 i.bits] 40))with⟨hk,hc⟩|⟨hk,a,b,c,d,e,ht,hc⟩
 .rw[Hy i.op hk,show Ae i ⟨0,0,0,0,0⟩=[] from rfl];obtain⟨op,D,A,B,E,n,bt⟩:=i;unfold Ch;simp only at hc hk |-;have HK:Hid (Calls prog 38 #[.int .i64 op] (w.alloc (.cells #[.int .i64 op,.int .i64 D,.int .i64 A,.int .i64 B,.int .i64 E,.int .i64 n,.int .u32 bt] 40)) fun e w'=>e=.returned (.tuple #[.string ⟨#[]⟩,.bool false])/\w'=w.alloc (.cells #[.int .i64 op,.int .i64 D,.int .i64 A,.int .i64 B,.int .i64 E,.int .i64 n,.int .u32 bt] 40)):=hc;clear hc;go_enter func59,ntmps59;go_wp2_with(go_at_call 38;refine HK.mono ?_;rintro e w1 ⟨rfl,rfl⟩)
  go_loopw [3,7] (fun lv iv wr=>lv=.slice none 0 0/\iv=.int .i64 0/\Below w.heap.size w wr) (fun _ iv _=>0)
  case atStart=>exact⟨rfl,rfl,bel (A0 _ _) (A0 _ _)⟩
  case round=>
   obtain⟨rfl,rfl,hb⟩:=hrel;go_wp2;go_ret;exact⟨_,rfl,World.ownsRow_nil _ _ _ 1,hb⟩
 .rw[F2];have h1:=u8ne b _ ht.b;have h2:=u8ne c _ ht.c;have h3:=u8ne d _ ht.d;obtain⟨i0,hi0,hz0,hz1,hz3⟩:=info_parts D8;obtain⟨r,hr⟩:=gA (A4 i.op)
  rw[hr]at h1 h2 h3 |-;obtain⟨L0,L1,L2,L3,L4⟩:=r;obtain⟨op,D,A,B,E,n,bt⟩:=i;unfold Ch;simp only at hc h1 h2 h3 |-;obtain⟨R,hR⟩:=gA ((ES L1 A++ES L2 B)++ES L3 E)
  rw[hR];have HR:Hid ((ES L1 A++ES L2 B)++ES L3 E=R):=hR;have HK:Hid (∀w,Calls prog 38 #[.int .i64 op] w fun x w'=>x=.returned (.tuple #[.string ⟨#[a,b,c,d,e]⟩,.bool true])/\w'=w):=hc;clear hc ht hr hR hk;go_enter func59,ntmps59;go_wp2_with(go_at_call 38;refine(HK.out _).mono ?_;rintro e w1 ⟨rfl,rfl⟩);have HF1:Hid (RRd w (w.heap.size+1+1) (w.heap.size+1) A B E ((w.alloc (.cells #[.int .i64 op,.int .i64 D,.int .i64 A,.int .i64 B,.int .i64 E,.int .i64 n,.int .u32 bt] 40)).alloc (.cells #[.int .i64 A,.int .i64 B,.int .i64 E] 3))):=
   ⟨bel (A0 _ _) (A0 _ _),oM,oM,sM,sG,sG,sG⟩
  obtain⟨W,hW⟩:=gA ((w.alloc (.cells #[.int .i64 op,.int .i64 D,.int .i64 A,.int .i64 B,.int .i64 E,.int .i64 n,.int .u32 bt] 40)).alloc (.cells #[.int .i64 A,.int .i64 B,.int .i64 E] 3))
  rw[hW]at HF1 |-;obtain⟨Q,hQ⟩:=gA (w.heap.size+1)
  rw[hQ]at HF1;try rw[hQ]
  clear hW
  go_loopw [3,7] (fun lv iv wr=>RRd w (Q+1) Q A B E wr/\∃ (j:Nat) (l:List Int),j<=3/\iv=.int .i64 j/\l.length<=j/\Hid (wr.ownsRow (Q+1) 3 1 lv l.length (Cg l))/\Hid ((j=0->l=[])/\(j=1->l=ES L1 A)/\(j=2->l=ES L1 A++ES L2 B)/\(j=3->l=(ES L1 A++ES L2 B)++ES L3 E))) (fun _ iv _=>3-(intOf iv).toNat)
  case atStart=>exact⟨HF1.out,0,[],oM,rfl,sM,World.ownsRow_nil _ _ _ 1,⟨fun _=>rfl,fun h=>absurd h oM,fun h=>absurd h oM,fun h=>absurd h oM⟩⟩
  case round=>
   clear HF1 HK;obtain⟨hF,j,l,hj,rfl,hll,HO,HL⟩:=hrel;have HF:Hid (RRd w (Q+1) Q A B E wr):=hF;have hGw:=hF.le;have hn1:Q≠wr.heap.size:=oM;obtain rfl|rfl|rfl|rfl:j=0\/j=1\/j=2\/j=3:=oM
   .have g0:=hF.g0;have f0:=kc (A0 wr (.cells #[.int .i64 A] 3)) g0;have hl0:=HL.1 rfl;have ix:∀w,(Instr.index 9 (.string ⟨#[a,b,c,d,e]⟩) (.int .i64 1)).run prog w=.ok (.int .u8 (b.toNat:Int)) w:=fun w=>by simp[Instr.index,run_underlying underlying9,asIntOf,go_sem];rfl
    have hq:=h1;clear hF h1 h2 h3;by_cases hz:L1=0
    .have hz':(!(L1==0))=false:=by simp[hz]
     rw[hz']at hq;have hq2:((b.toNat:Int)==45)=true:=by simpa[bne]using hq
     have HZ:Hid (L1=0):=hz;clear hz;go_wp2;go_roundw
     case rel=>exact⟨HF.out,1,l,oM,by first|rfl|go_num,oM,HO,⟨fun h=>absurd h oM,fun _=>by rw[hl0];unfold ES;simp[HZ.out],fun h=>absurd h oM,fun h=>absurd h oM⟩⟩
     case measure=>simp[intOf]
    .have hz':(!(L1==0))=true:=by simp[hz]
     rw[hz']at hq;have hq2:((b.toNat:Int)==45)=false:=by simpa[bne]using hq
     have HZ:Hid (¬L1=0):=hz;clear hz;go_wp2_with(first
      |(at_builtin;refine wpList_append_own_at _ rfl _ _ 72 rfl (Q+1) 3 i0 _ 1 8 underlying72 hi0 hz0 hz1 hz3 rfl dE _ l.length (Cg l) rfl (World.ownsRow.alloc HO.out _) ⟨wr.heap.size,0,none⟩ 1 1 [.int .i64 A] rfl rfl (World.news_of_block (cs:=#[.int .i64 A]) (t:=3) (fr:=(0,0)) (heap_alloc_new wr _)) Sx mL oM sO ?_;intro v' w3 hown3 hgrow hnil hat;have HO3:Hid (w3.ownsRow (Q+1) 3 1 v' (l.length+1) (Cg l++[.int .i64 A])):=hown3;have HB3:Hid (Below (Q+1) wr w3):=(Below.alloc (Below.refl _ _) hGw _).grown hgrow sO (fun q e=>(HO.lt q e).1);clear hown3 hgrow hnil hat))
     go_roundw
     case rel=>exact⟨HF.next HB3.out,1,l++[A],oM,by first|rfl|go_num,sO,by show _;rw[List.length_append,D1];exact HO3.out,⟨fun h=>absurd h oM,fun _=>by rw[hl0,show ES L1 A=[A]from if_neg HZ.out];try rfl,fun h=>absurd h oM,fun h=>absurd h oM⟩⟩
     case measure=>simp[intOf]
   .have g0:=hF.g1;have f0:=kc (A0 wr (.cells #[.int .i64 B] 3)) g0;have hl0:=HL.2.1 rfl;have ix:∀w,(Instr.index 9 (.string ⟨#[a,b,c,d,e]⟩) (.int .i64 2)).run prog w=.ok (.int .u8 (c.toNat:Int)) w:=fun w=>by simp[Instr.index,run_underlying underlying9,asIntOf,go_sem];rfl
    have hq:=h2;clear hF h1 h2 h3;by_cases hz:L2=0
    .have hz':(!(L2==0))=false:=by simp[hz]
     rw[hz']at hq;have hq2:((c.toNat:Int)==45)=true:=by simpa[bne]using hq
     have HZ:Hid (L2=0):=hz;clear hz;go_wp2;go_roundw
     case rel=>exact⟨HF.out,2,l,oM,by first|rfl|go_num,oM,HO,⟨fun h=>absurd h oM,fun h=>absurd h oM,fun _=>by rw[hl0];unfold ES;simp[HZ.out],fun h=>absurd h oM⟩⟩
     case measure=>simp[intOf]
    .have hz':(!(L2==0))=true:=by simp[hz]
     rw[hz']at hq;have hq2:((c.toNat:Int)==45)=false:=by simpa[bne]using hq
     have HZ:Hid (¬L2=0):=hz;clear hz;go_wp2_with(first
      |(at_builtin;refine wpList_append_own_at _ rfl _ _ 72 rfl (Q+1) 3 i0 _ 1 8 underlying72 hi0 hz0 hz1 hz3 rfl dE _ l.length (Cg l) rfl (World.ownsRow.alloc HO.out _) ⟨wr.heap.size,0,none⟩ 1 1 [.int .i64 B] rfl rfl (World.news_of_block (cs:=#[.int .i64 B]) (t:=3) (fr:=(0,0)) (heap_alloc_new wr _)) Sx mL oM sO ?_;intro v' w3 hown3 hgrow hnil hat;have HO3:Hid (w3.ownsRow (Q+1) 3 1 v' (l.length+1) (Cg l++[.int .i64 B])):=hown3;have HB3:Hid (Below (Q+1) wr w3):=(Below.alloc (Below.refl _ _) hGw _).grown hgrow sO (fun q e=>(HO.lt q e).1);clear hown3 hgrow hnil hat))
     go_roundw
     case rel=>exact⟨HF.next HB3.out,2,l++[B],oM,by first|rfl|go_num,sO,by show _;rw[List.length_append,D1];exact HO3.out,⟨fun h=>absurd h oM,fun h=>absurd h oM,fun _=>by rw[hl0,show ES L2 B=[B]from if_neg HZ.out];try rfl,fun h=>absurd h oM⟩⟩
     case measure=>simp[intOf]
   .have g0:=hF.g2;have f0:=kc (A0 wr (.cells #[.int .i64 E] 3)) g0;have hl0:=HL.2.2.1 rfl;have ix:∀w,(Instr.index 9 (.string ⟨#[a,b,c,d,e]⟩) (.int .i64 3)).run prog w=.ok (.int .u8 (d.toNat:Int)) w:=fun w=>by simp[Instr.index,run_underlying underlying9,asIntOf,go_sem];rfl
    have hq:=h3;clear hF h1 h2 h3;by_cases hz:L3=0
    .have hz':(!(L3==0))=false:=by simp[hz]
     rw[hz']at hq;have hq2:((d.toNat:Int)==45)=true:=by simpa[bne]using hq
     have HZ:Hid (L3=0):=hz;clear hz;go_wp2;go_roundw
     case rel=>exact⟨HF.out,3,l,oM,by first|rfl|go_num,oM,HO,⟨fun h=>absurd h oM,fun h=>absurd h oM,fun h=>absurd h oM,fun _=>by rw[hl0];unfold ES;simp[HZ.out]⟩⟩
     case measure=>simp[intOf]
    .have hz':(!(L3==0))=true:=by simp[hz]
     rw[hz']at hq;have hq2:((d.toNat:Int)==45)=false:=by simpa[bne]using hq
     have HZ:Hid (¬L3=0):=hz;clear hz;go_wp2_with(first
      |(at_builtin;refine wpList_append_own_at _ rfl _ _ 72 rfl (Q+1) 3 i0 _ 1 8 underlying72 hi0 hz0 hz1 hz3 rfl dE _ l.length (Cg l) rfl (World.ownsRow.alloc HO.out _) ⟨wr.heap.size,0,none⟩ 1 1 [.int .i64 E] rfl rfl (World.news_of_block (cs:=#[.int .i64 E]) (t:=3) (fr:=(0,0)) (heap_alloc_new wr _)) Sx mL oM sO ?_;intro v' w3 hown3 hgrow hnil hat;have HO3:Hid (w3.ownsRow (Q+1) 3 1 v' (l.length+1) (Cg l++[.int .i64 E])):=hown3;have HB3:Hid (Below (Q+1) wr w3):=(Below.alloc (Below.refl _ _) hGw _).grown hgrow sO (fun q e=>(HO.lt q e).1);clear hown3 hgrow hnil hat))
     go_roundw
     case rel=>exact⟨HF.next HB3.out,3,l++[E],oM,by first|rfl|go_num,sO,by show _;rw[List.length_append,D1];exact HO3.out,⟨fun h=>absurd h oM,fun h=>absurd h oM,fun h=>absurd h oM,fun _=>by rw[hl0,show ES L3 E=[E]from if_neg HZ.out];try rfl⟩⟩
     case measure=>simp[intOf]
   .exact Zfb
theorem Hw(t:Ty)(p:Option Addr)(n c:Nat)(hn:n<=140737488351232)(w:World):Calls prog 34 #[DY t,.slice p n c] w fun e w'=>e=.returned (.bool (AF t n))/\Below w.heap.size w w':=by
 obtain⟨K,P⟩:=t;unfold AF DY Av;simp only;by_cases h1:K=1
 .subst h1;rw[if_pos (Or.inl rfl)];exact Zfa
 .by_cases h2:K=2
  .subst h2;rw[if_pos (Or.inr rfl)];exact Zfa
  .rw[if_neg (fun e=>e.elim h1 h2)];have h1':(K==1)=false:=by simpa using h1
   have h2':(K==2)=false:=by simpa using h2
   by_cases h3:K=3
   .subst h3;rw[if_pos rfl];by_cases h:0<=P
    all_goals
     go_enter func34,ntmps34;go_wp2;go_ret;exact⟨Ab (by simp[h];try omega),A0 _ _⟩
   .rw[if_neg h3];have h3':(K==3)=false:=by simpa using h3
    clear h1 h2 h3;exact Zfa
theorem OB(v0 v1 v2 v3:Value)(c:Cd)(hk:Ba c)(n:Int)(w:World)(hv:CD w v0 v1 v2 v3 c):
 Calls prog 107 #[.agg #[v0,v1,v2,v3],.int .i64 n] w fun e w'=>e=.returned (.tuple #[DY (Aa c.regs n),.bool (Av n c.regs.length)])/\Below w.heap.size w w':=by
 have HB:=hk.regsL;have hr:=hv.regs;obtain⟨p,q,rfl,hrr⟩:=hv.regs;clear hv hk;by_cases h0:0<=n
 .by_cases h1:n<(c.regs.length:Int)
  .obtain⟨k,rfl⟩:∃k:Nat,n=(k:Int):=⟨n.toNat,oM⟩
   have hk:k<c.regs.length:=oM;have e:Aa c.regs (k:Int)=c.regs[k]:=Ft rfl hk;have e2:Av (k:Int) c.regs.length=true:=BU.2 ⟨oM,oM⟩;rw[e,e2];obtain⟨lb,lo,rfl,hc⟩:=hr.at hk;obtain⟨⟨K,P⟩,ht⟩:∃t:Ty,c.regs[k]=t:=⟨_,rfl⟩
   rw[ht]at hc |-;have y0:w.cell? ⟨lb,lo+k*2,none⟩=some (.int .i64 K):=hc.at 0 rfl;have y1:w.cell? ⟨lb,lo+k*2+1,none⟩=some (.int .i64 P):=hc.at 1 rfl;have hlb:lb≠w.heap.size:=by have:=A8 y0;simp only at this;omega
   obtain⟨N,hN⟩:=gA (c.regs.length)
   rw[hN]at hk HB |-;clear hr hrr hc ht e e2 h0 h1 hN;have g0:∀o o',((w.alloc o).alloc o').cell? ⟨lb,lo+k*2,none⟩=some (.int .i64 K):=fun o o'=>kc (bel (A0 _ _) (A0 _ _)) y0;have g1:∀o o',((w.alloc o).alloc o').cell? ⟨lb,lo+k*2+1,none⟩=some (.int .i64 P):=fun o o'=>kc (bel (A0 _ _) (A0 _ _)) y1;unfold DY;go_enter func107,ntmps107;go_wp2;refine bodyPost_ret Zgv rfl ?_;exact UP
  .have e2:Av n c.regs.length=false:=by unfold Av;simp;omega
   have e:Aa c.regs n=⟨0,0⟩:=by unfold Aa;rw[e2];rfl
   rw[e,e2];obtain⟨N,hN⟩:=gA (c.regs.length)
   rw[hN]at h1 HB |-;clear hr hrr e e2 hN;unfold DY;go_enter func107,ntmps107;go_wp2;refine bodyPost_ret Zgv rfl ?_;exact UP
 .have e2:Av n c.regs.length=false:=by unfold Av;simp;omega
  have e:Aa c.regs n=⟨0,0⟩:=by unfold Aa;rw[e2];rfl
  rw[e,e2];obtain⟨N,hN⟩:=gA (c.regs.length)
  rw[hN]at HB |-;clear hr hrr e e2 hN;unfold DY;go_enter func107,ntmps107;go_wp2;refine bodyPost_ret Zgv rfl ?_;exact UP
def GD(b:Int)(t d:Ty):Bool:=
 if b=110 then t.kind==1 else if b=119 then t.kind==2 else if b=118 then t.kind==3 else if b=100 then t.kind==1||t.kind==3
 else if b=120 then t.kind==1||decide (t=d)else if b=99 then decide (t=d)||(t.kind==1&&d.kind==3)else true
def At(rs:List Ty)(b n:Int)(d:Ty):Bool:=if b=45 then n==0 else Av n rs.length&&GD b (Aa rs n) d
theorem Fw(v0 v1 v2 v3:Value)(c:Cd)(hk:Ba c)(b n:Int)(d:Ty)(hb:b=45\/b=110\/b=119\/b=118\/b=100\/b=120\/b=99\/b=97)(w:World)(hv:CD w v0 v1 v2 v3 c):
 Calls prog 86 #[.agg #[v0,v1,v2,v3],.int .u8 b,.int .i64 n,DY d] w fun e w'=>e=.returned (.bool (At c.regs b n d))/\Below w.heap.size w w':=by
 have KT:Hid (∀v,Below w.heap.size w v->Calls prog 107 #[.agg #[v0,v1,v2,v3],.int .i64 n] v fun e w'=>e=.returned (.tuple #[DY (Aa c.regs n),.bool (Av n c.regs.length)])/\Below v.heap.size v w'):=fun v h=>OB v0 v1 v2 v3 c hk n v (hv.below h);unfold At;obtain⟨X,hX⟩:=gA (Av n c.regs.length)
 obtain⟨⟨K,P⟩,ht⟩:∃t:Ty,Aa c.regs n=t:=⟨_,rfl⟩
 rw[hX,ht]at KT |-;clear hX ht hv hk;obtain⟨dk,dp⟩:=d;unfold DY at KT |-;simp only at KT |-;by_cases h45:b=45
 .subst h45;rw[if_pos rfl];go_enter func86,ntmps86;go_wp2;go_ret;exact UP
 .rw[if_neg h45];have h45':(b==45)=false:=by simpa using h45
  cases X
  .rw[Bool.false_and];clear hb h45;go_enter func86,ntmps86;go_wp2_with(go_at_call 107;(with_reducible refine(KT.out _ (bel (A0 _ _) (A0 _ _))).mono ?_);rintro e w1 ⟨rfl,hb1⟩;have f0:∀o,(w1.alloc o).cell? ⟨w.heap.size+1,0,none⟩=some (.int .i64 dk):=(fun o=>kc (bel hb1 (A0 _ _)) sG);have f1:∀o,(w1.alloc o).cell? ⟨w.heap.size+1,1,none⟩=some (.int .i64 dp):=(fun o=>kc (bel hb1 (A0 _ _)) sG);have HB1:Hid _:=hb1;clear hb1);go_ret;exact⟨rfl,bel (bel (A0 _ _) (A0 _ _)) (bel HB1.out (A0 _ _))⟩
  .rw[Bool.true_and];rcases hb with rfl|rfl|rfl|rfl|rfl|rfl|rfl|rfl
   .exact absurd rfl h45
   all_goals clear h45 h45'
   all_goals
    cases h1:(K==1)
    all_goals
     by_cases hkd:K=dk
     .subst hkd;by_cases hpd:P=dp
      .subst hpd;go_enter func86,ntmps86;go_wp2_with(go_at_call 107;(with_reducible refine(KT.out _ (bel (A0 _ _) (A0 _ _))).mono ?_);rintro e w1 ⟨rfl,hb1⟩;have f0:∀o,(w1.alloc o).cell? ⟨w.heap.size+1,0,none⟩=some (.int .i64 K):=(fun o=>kc (bel hb1 (A0 _ _)) sG);have f1:∀o,(w1.alloc o).cell? ⟨w.heap.size+1,1,none⟩=some (.int .i64 P):=(fun o=>kc (bel hb1 (A0 _ _)) sG);have HB1:Hid _:=hb1;clear hb1);exact Zds
      .go_enter func86,ntmps86;go_wp2_with(go_at_call 107;(with_reducible refine(KT.out _ (bel (A0 _ _) (A0 _ _))).mono ?_);rintro e w1 ⟨rfl,hb1⟩;have f0:∀o,(w1.alloc o).cell? ⟨w.heap.size+1,0,none⟩=some (.int .i64 K):=(fun o=>kc (bel hb1 (A0 _ _)) sG);have f1:∀o,(w1.alloc o).cell? ⟨w.heap.size+1,1,none⟩=some (.int .i64 dp):=(fun o=>kc (bel hb1 (A0 _ _)) sG);have HB1:Hid _:=hb1;clear hb1);exact Zds
     .go_enter func86,ntmps86;go_wp2_with(go_at_call 107;(with_reducible refine(KT.out _ (bel (A0 _ _) (A0 _ _))).mono ?_);rintro e w1 ⟨rfl,hb1⟩;have f0:∀o,(w1.alloc o).cell? ⟨w.heap.size+1,0,none⟩=some (.int .i64 dk):=(fun o=>kc (bel hb1 (A0 _ _)) sG);have f1:∀o,(w1.alloc o).cell? ⟨w.heap.size+1,1,none⟩=some (.int .i64 dp):=(fun o=>kc (bel hb1 (A0 _ _)) sG);have HB1:Hid _:=hb1;clear hb1);exact Zds
theorem M8(v0 v1 v2 v3:Value)(c:Cd)(hk:Ba c)(n p:Int)(hp:n=1->Av p c.sign.length=true)(w:World)(hv:CD w v0 v1 v2 v3 c):
 Calls prog 87 #[.agg #[v0,v1,v2,v3],.int .i64 n,.int .i64 p] w fun e w'=>e=.returned (.bool (n==0||(n==1&&CU c.sign p==2)))/\Below w.heap.size w w':=by
 have HB:=hk.signL;by_cases h0:n=0
 .subst h0;clear hp hv;go_enter func87,ntmps87;go_wp2;go_ret;exact⟨rfl,A0 _ _⟩
 .have h0':(n==0)=false:=by simpa using h0
  by_cases h1:n=1
  .subst h1;obtain⟨k,rfl,hkl⟩:=Dq (hp rfl);have hr:=hv.sign;obtain⟨p,q,rfl,hrr⟩:=hv.sign;obtain⟨lb,lo,rfl,hc⟩:=hr.at hkl;have e:CU c.sign (k:Int)=c.sign[k].kind:=by unfold CU;rw[Int.toNat_natCast,gB hkl];rfl
   rw[e];obtain⟨⟨nm,K,L⟩,ht⟩:∃t:BJ,c.sign[k]=t:=⟨_,rfl⟩
   rw[ht]at hc |-;have y1:w.cell? ⟨lb,lo+k*3+1,none⟩=some (.int .i64 K):=hc.at 1 rfl;have g1:∀o,(w.alloc o).cell? ⟨lb,lo+k*3+1,none⟩=some (.int .i64 K):=fun o=>kc (A0 _ _) y1;obtain⟨N,hN⟩:=gA (c.sign.length)
   rw[hN]at hkl HB |-;clear hr hrr hc ht e hp hv hN h0 hk;simp only;go_enter func87,ntmps87;go_wp2;go_ret;exact⟨Ab sM,A0 _ _⟩
  .have h1':(n==1)=false:=by simpa using h1
   rw[h0',h1'];clear hp hv h0 h1;go_enter func87,ntmps87;go_wp2;go_ret;exact⟨rfl,A0 _ _⟩
def FL(i:Ad):Int:=if Bq i.op||(i.op==29||(i.op==30||i.op==32))then i.d else if i.op==31||i.op==33 then i.a else -1
def GF(rs:List Ty)(n:Int):Int:=if Av n rs.length&&(Aa rs n).kind==3 then(Aa rs n).par else -1
theorem OD(v0 v1 v2 v3:Value)(c:Cd)(hk:Ba c)(i:Ad)(w:World)(hv:CD w v0 v1 v2 v3 c):
 Calls prog 58 #[.agg #[v0,v1,v2,v3],Ch i] w fun e w'=>e=.returned (.int .i64 (GF c.regs (FL i)))/\Below w.heap.size w w':=by
 have HB:=hk.regsL;have KE:Hid (∀v,Calls prog 88 #[.int .i64 i.op] v fun e w'=>e=.returned (.bool (Bq i.op))/\w'=v):=TM i.op;have hr:=hv.regs;obtain⟨p,q,rfl,hrr⟩:=hv.regs;clear hv hk hrr;obtain⟨op,D,A,B,E,nn,bb⟩:=i;unfold Ch;simp only at KE |-;have Bl:∀n:Int,(Av n c.regs.length=false/\GF c.regs n= -1)\/∃ (k:Nat) (lb lo:Nat) (K P:Int),n=(k:Int)/\k<c.regs.length/\p=some ⟨lb,lo,none⟩/\w.cell? ⟨lb,lo+k*2,none⟩=some (.int .i64 K)/\w.cell? ⟨lb,lo+k*2+1,none⟩=some (.int .i64 P)/\GF c.regs n=if K==3 then P else -1:=by
  intro n;cases h:Av n c.regs.length
  .exact .inl ⟨rfl,by unfold GF;rw[h];rfl⟩
  .obtain⟨k,rfl,hkl⟩:=Dq h;obtain⟨lb,lo,hp,hc⟩:=hr.at hkl;refine .inr ⟨k,lb,lo,c.regs[k].kind,c.regs[k].par,rfl,hkl,hp,hc.at 0 rfl,hc.at 1 rfl,?_⟩;unfold GF;rw[h,Ft rfl hkl,Bool.true_and]
 obtain⟨N,hN⟩:=gA (c.regs.length)
 rw[hN]at HB Bl |-;clear hr;cases hX:Bq op
 .rw[hX]at KE;by_cases a29:op=29
  .subst a29;rw[show FL ⟨29,D,A,B,E,nn,bb⟩=D from rfl];rcases Bl D with⟨hpl,e9⟩|⟨k,lb,lo,K,P,rfl,hkl,rfl,y0,y1,e9⟩
   .rw[e9];clear Bl e9;by_cases h0:D<0
    .exact J9
    .have h1:(N:Int)<=D:=by unfold Av at hpl;simp at hpl;omega
     exact J9
   .rw[e9];clear Bl e9;have g0:∀o o',((w.alloc o).alloc o').cell? ⟨lb,lo+k*2,none⟩=some (.int .i64 K):=fun o o'=>kc (bel (A0 _ _) (A0 _ _)) y0;have g1:∀o o',((w.alloc o).alloc o').cell? ⟨lb,lo+k*2+1,none⟩=some (.int .i64 P):=fun o o'=>kc (bel (A0 _ _) (A0 _ _)) y1;by_cases h3:K=3
    .subst h3;exact J9
    .have h3':(K==3)=false:=by simpa using h3
     have h3b:(K != 3)=true:=by simpa using h3
     rw[h3'];clear h3;exact J9
  by_cases a30:op=30
  .subst a30;rw[show FL ⟨30,D,A,B,E,nn,bb⟩=D from rfl];rcases Bl D with⟨hpl,e9⟩|⟨k,lb,lo,K,P,rfl,hkl,rfl,y0,y1,e9⟩
   .rw[e9];clear Bl e9;by_cases h0:D<0
    .exact J9
    .have h1:(N:Int)<=D:=by unfold Av at hpl;simp at hpl;omega
     exact J9
   .rw[e9];clear Bl e9;have g0:∀o o',((w.alloc o).alloc o').cell? ⟨lb,lo+k*2,none⟩=some (.int .i64 K):=fun o o'=>kc (bel (A0 _ _) (A0 _ _)) y0;have g1:∀o o',((w.alloc o).alloc o').cell? ⟨lb,lo+k*2+1,none⟩=some (.int .i64 P):=fun o o'=>kc (bel (A0 _ _) (A0 _ _)) y1;by_cases h3:K=3
    .subst h3;exact J9
    .have h3':(K==3)=false:=by simpa using h3
     have h3b:(K != 3)=true:=by simpa using h3
     rw[h3'];clear h3;exact J9
  by_cases a32:op=32
  .subst a32;rw[show FL ⟨32,D,A,B,E,nn,bb⟩=D from rfl];rcases Bl D with⟨hpl,e9⟩|⟨k,lb,lo,K,P,rfl,hkl,rfl,y0,y1,e9⟩
   .rw[e9];clear Bl e9;by_cases h0:D<0
    .exact J9
    .have h1:(N:Int)<=D:=by unfold Av at hpl;simp at hpl;omega
     exact J9
   .rw[e9];clear Bl e9;have g0:∀o o',((w.alloc o).alloc o').cell? ⟨lb,lo+k*2,none⟩=some (.int .i64 K):=fun o o'=>kc (bel (A0 _ _) (A0 _ _)) y0;have g1:∀o o',((w.alloc o).alloc o').cell? ⟨lb,lo+k*2+1,none⟩=some (.int .i64 P):=fun o o'=>kc (bel (A0 _ _) (A0 _ _)) y1;by_cases h3:K=3
    .subst h3;exact J9
    .have h3':(K==3)=false:=by simpa using h3
     have h3b:(K != 3)=true:=by simpa using h3
     rw[h3'];clear h3;exact J9
  by_cases a31:op=31
  .subst a31;rw[show FL ⟨31,D,A,B,E,nn,bb⟩=A from rfl];rcases Bl A with⟨hpl,e9⟩|⟨k,lb,lo,K,P,rfl,hkl,rfl,y0,y1,e9⟩
   .rw[e9];clear Bl e9;by_cases h0:A<0
    .exact J9
    .have h1:(N:Int)<=A:=by unfold Av at hpl;simp at hpl;omega
     exact J9
   .rw[e9];clear Bl e9;have g0:∀o o',((w.alloc o).alloc o').cell? ⟨lb,lo+k*2,none⟩=some (.int .i64 K):=fun o o'=>kc (bel (A0 _ _) (A0 _ _)) y0;have g1:∀o o',((w.alloc o).alloc o').cell? ⟨lb,lo+k*2+1,none⟩=some (.int .i64 P):=fun o o'=>kc (bel (A0 _ _) (A0 _ _)) y1;by_cases h3:K=3
    .subst h3;exact J9
    .have h3':(K==3)=false:=by simpa using h3
     have h3b:(K != 3)=true:=by simpa using h3
     rw[h3'];clear h3;exact J9
  by_cases a33:op=33
  .subst a33;rw[show FL ⟨33,D,A,B,E,nn,bb⟩=A from rfl];rcases Bl A with⟨hpl,e9⟩|⟨k,lb,lo,K,P,rfl,hkl,rfl,y0,y1,e9⟩
   .rw[e9];clear Bl e9;by_cases h0:A<0
    .exact J9
    .have h1:(N:Int)<=A:=by unfold Av at hpl;simp at hpl;omega
     exact J9
   .rw[e9];clear Bl e9;have g0:∀o o',((w.alloc o).alloc o').cell? ⟨lb,lo+k*2,none⟩=some (.int .i64 K):=fun o o'=>kc (bel (A0 _ _) (A0 _ _)) y0;have g1:∀o o',((w.alloc o).alloc o').cell? ⟨lb,lo+k*2+1,none⟩=some (.int .i64 P):=fun o o'=>kc (bel (A0 _ _) (A0 _ _)) y1;by_cases h3:K=3
    .subst h3;exact J9
    .have h3':(K==3)=false:=by simpa using h3
     have h3b:(K != 3)=true:=by simpa using h3
     rw[h3'];clear h3;exact J9
  .have b29:(op==29)=false:=by simpa using a29
   have b30:(op==30)=false:=by simpa using a30
   have b31:(op==31)=false:=by simpa using a31
   have b32:(op==32)=false:=by simpa using a32
   have b33:(op==33)=false:=by simpa using a33
   rw[show FL ⟨op,D,A,B,E,nn,bb⟩= -1 by unfold FL;simp[hX,b29,b30,b31,b32,b33]];rw[show GF c.regs (-1)= -1 by unfold GF Av;simp];clear Bl a29 a30 a31 a32 a33;exact J9
 .rw[hX]at KE;rw[show FL ⟨op,D,A,B,E,nn,bb⟩=D by unfold FL;simp[hX]];rcases Bl D with⟨hpl,e9⟩|⟨k,lb,lo,K,P,rfl,hkl,rfl,y0,y1,e9⟩
  .rw[e9];clear Bl e9;by_cases h0:D<0
   .exact J9
   .have h1:(N:Int)<=D:=by unfold Av at hpl;simp at hpl;omega
    exact J9
  .rw[e9];clear Bl e9;have g0:∀o o',((w.alloc o).alloc o').cell? ⟨lb,lo+k*2,none⟩=some (.int .i64 K):=fun o o'=>kc (bel (A0 _ _) (A0 _ _)) y0;have g1:∀o o',((w.alloc o).alloc o').cell? ⟨lb,lo+k*2+1,none⟩=some (.int .i64 P):=fun o o'=>kc (bel (A0 _ _) (A0 _ _)) y1;by_cases h3:K=3
   .subst h3;exact J9
   .have h3':(K==3)=false:=by simpa using h3
    have h3b:(K != 3)=true:=by simpa using h3
    rw[h3'];clear h3;exact J9
theorem Eg(a:Int)(h0:0<=a)(h1:a<4294967296)(w:World):Calls prog 56 #[.int .u32 a] w fun e w'=>e=.returned (.bool (CN a))/\Below w.heap.size w w':=by
 have hc:CN a=(An a==a):=by unfold CN An;cases nan a<;>rw[Bool.eq_iff_iff]<;>simp
 rw[hc];have HK:Hid (∀w,Calls prog 85 #[.int .i64 a] w fun e w'=>e=.returned (.int .i64 (An a))/\Below w.heap.size w w'):=G9 a h0 h1;have hw:IntKind.i64.wrap a=a:=by rw[IntKind.wrap_i64];omega
 clear hc;obtain⟨x,hx⟩:=gA (An a)
 rw[hx]at HK |-;clear hx;go_enter func56,ntmps56;go_wp2_with(go_at_call 85;refine(HK.out _).mono ?_;rintro e w1 ⟨rfl,hb1⟩;have HB1:Hid _:=hb1;clear hb1);go_ret;exact⟨rfl,HB1.out⟩
theorem N7(s:Sl)(h0:0<=s.bits)(h1:s.bits<4294967296)(p:Option Addr)(n c:Nat)(hn:n<=140737488351232)(w:World):
 Calls prog 35 #[Sk s,.slice p n c] w fun e w'=>e=.returned (.bool (Be s n))/\Below w.heap.size w w':=by
 have HK:Hid (∀w,Calls prog 56 #[.int .u32 s.bits] w fun e w'=>e=.returned (.bool (CN s.bits))/\Below w.heap.size w w'):=Eg s.bits h0 h1;have HT:Hid (∀w,Calls prog 34 #[DY s.ty,.slice p n c] w fun e w'=>e=.returned (.bool (AF s.ty n))/\Below w.heap.size w w'):=Hw s.ty p n c hn;obtain⟨⟨K,P⟩,Q,B,I⟩:=s;unfold Be EN Sk Dt;unfold DY at HT;simp only at HK HT h0 h1 |-;obtain⟨X,hX⟩:=gA (CN B)
 obtain⟨Y,hY⟩:=gA (AF ⟨K,P⟩ n)
 rw[hX]at HK |-;rw[hY]at HT |-;clear hX hY;cases Y
 .rw[Bool.false_and];exact Zbq
 .rw[Bool.true_and];by_cases h2:K=2
  .subst h2;rw[if_pos rfl];cases hb:(B==0)
   .have hb':(B != 0)=true:=by simpa using hb
    exact Zbr
   .by_cases hi:0<=I
    all_goals
     exact Zbr
  .rw[if_neg h2];have h2':(K==2)=false:=by simpa using h2
   clear h2;cases hi:(I==0)
   all_goals
    exact Zbq
structure Lt where
 a:Int
 b:Int
 c:Int
 d:Int
 e:Int
def DR(op:Int):Lt:=
 if op=1 then⟨110,45,45,45,45⟩
 else if op=2 then⟨119,45,45,45,105⟩
 else if op=3 then⟨97,99,45,45,45⟩
 else if 4<=op/\op<=10 then⟨100,120,120,45,45⟩
 else if 11<=op/\op<=14 then⟨100,120,45,45,45⟩
 else if op=15 then⟨100,120,120,120,45⟩
 else if op=16 then⟨110,110,119,45,45⟩
 else if op=17 then⟨110,119,45,45,45⟩
 else if op=18 then⟨119,110,45,45,45⟩
 else if 19<=op/\op<=20 then⟨110,118,45,45,45⟩
 else if op=21\/op=25 then⟨119,119,45,45,45⟩
 else if op=26 then⟨119,119,119,119,45⟩
 else if 22<=op/\op<=28 then⟨119,119,119,45,45⟩
 else if 29<=op/\op<=30 then⟨118,45,45,45,112⟩
 else if op=31 then⟨45,118,45,45,112⟩
 else if op=32 then⟨97,45,45,45,115⟩
 else if op=33 then⟨45,97,45,45,115⟩
 else if op=34 then⟨45,119,45,45,45⟩
 else if op=36 then⟨45,45,45,45,113⟩
 else⟨45,45,45,45,45⟩
def dR(rs:List Ty)(l D:Int):Ty:=if l=45 then⟨0,0⟩else Aa rs D
def tR(rs:List Ty)(l0 l1 D A:Int):Ty:=if l0=45/\l1≠45 then Aa rs A else dR rs l0 D
def Dl(c:Cd)(l n:Int)(t:Ty):Bool:=
 if l=105 then Dt n
 else if l=112 then n==0||(n==1&&CU c.sign t.par==2)
 else if l=115 then Av n c.slots.length&&decide (Cv c.slots n=t)
 else if l=113 then Av n c.sign.length
 else n==0
def Ew(c:Cd)(i:Ad)(L:Lt):Bool:=
 (i.op==1||i.bits==0)&&(CN i.bits&&(At c.regs L.a i.d ⟨0,0⟩&&(At c.regs L.b i.a (dR c.regs L.a i.d)&&(At c.regs L.c i.b (dR c.regs L.a i.d)&&(At c.regs L.d i.c (dR c.regs L.a i.d)&&Dl c L.e i.n (tR c.regs L.a L.b i.d i.a))))))
theorem Rj{c:Cd}(h:Ax c=true){n:Int}(hp:Av n c.regs.length=true):AF (Aa c.regs n) c.sign.length=true:=by
 obtain⟨k,rfl,hk⟩:=Dq hp;rw[Ft rfl hk];unfold Ax at h;exact List.all_eq_true.1 h _ (gD hk)
theorem Rl{c:Cd}(h:Ax c=true){n:Int}(hp:Av n c.regs.length=true)(hk:(Aa c.regs n).kind=1):(Aa c.regs n).par=0:=by
 have:=Rj h hp;unfold AF at this;rw[if_pos (.inl hk)]at this;simpa using this
theorem x_eq{c:Cd}(h:Ax c=true){n m:Int}(hn:Av n c.regs.length=true)(hm:Av m c.regs.length=true)(hk:((Aa c.regs m).kind==1||(Aa c.regs m).kind==3)=true):
 ((Aa c.regs n).kind==1||decide (Aa c.regs n=Aa c.regs m))=(decide (Aa c.regs n=Aa c.regs m)||((Aa c.regs n).kind==1&&(Aa c.regs m).kind==3)):=by
 have h1:=Rl h hn;have h2:=Rl h hm;generalize Aa c.regs n=t at *;generalize Aa c.regs m=d at *;obtain⟨K,P⟩:=t;obtain⟨A,B⟩:=d;simp only at h1 h2 hk |-;rw[Bool.eq_iff_iff];simp only[Bool.or_eq_true,beq_iff_eq,decide_eq_true_eq,Bool.and_eq_true,Ty.mk.injEq]at hk |-;constructor
 .rintro(e|e)
  .rcases hk with k|k
   .exact .inl ⟨oM,by rw[h1 e,h2 k]⟩
   .exact .inr ⟨e,k⟩
  .exact .inl e
 .rintro(e|e)
  .exact .inr e
  .exact .inl e.1
theorem told0:CN 0=true:=dE
theorem F1(rs:List Ty)(n:Int)(d:Ty):At rs 45 n d=(n==0):=if_pos rfl
theorem Fb(rs:List Ty)(n:Int)(d:Ty):Ah rs 0 n d=(n==0):=if_pos rfl
theorem C0{l:Int}(h:l≠0)(rs:List Ty)(n:Int)(d:Ty):Ah rs l n d=(Av n rs.length&&B7 l (Aa rs n) d):=if_neg h
theorem BV{l:Int}(h:l≠45)(rs:List Ty)(n:Int)(d:Ty):At rs l n d=(Av n rs.length&&GD l (Aa rs n) d):=if_neg h
theorem Ip(rs:List Ty)(n:Int)(d m:Ty):At rs 110 n d=Ah rs 1 n m:=by rw[BV dE,C0 dE];rfl
theorem Db(rs:List Ty)(n:Int)(d m:Ty):At rs 119 n d=Ah rs 2 n m:=by rw[BV dE,C0 dE];rfl
theorem Qb(rs:List Ty)(n:Int)(d m:Ty):At rs 118 n d=Ah rs 3 n m:=by rw[BV dE,C0 dE];rfl
theorem Qa(rs:List Ty)(n:Int)(d m:Ty):At rs 100 n d=Ah rs 4 n m:=by rw[BV dE,C0 dE];rfl
theorem Ay(rs:List Ty)(n:Int)(d m:Ty):At rs 45 n d=Ah rs 0 n m:=by rw[F1,Fb]
theorem Q9(rs:List Ty)(n:Int)(d:Ty):At rs 97 n d=Ah rs 6 n (Aa rs n):=by rw[BV dE,C0 dE];simp[GD,B7]
theorem oper_c(rs:List Ty)(n:Int)(d:Ty):At rs 99 n d=Ah rs 5 n d:=by rw[BV dE,C0 dE];simp[GD,B7]
theorem oper_x{c:Cd}(h:Ax c=true)(n:Int){m:Int}(hd:Ah c.regs 4 m (Aa c.regs m)=true):At c.regs 120 n (Aa c.regs m)=Ah c.regs 5 n (Aa c.regs m):=by
 rw[BV dE,C0 dE];rw[C0 dE]at hd;simp only[Bool.and_eq_true]at hd;cases hn:Av n c.regs.length
 .rfl
 .rw[Bool.true_and,Bool.true_and];exact x_eq h hn hd.1 hd.2
theorem B9{c:Cd}{i:Ad}{L:Lt}{R:Rw}(h1:i.op≠1)(h7:R.n≠7)(ha:At c.regs L.a i.d ⟨0,0⟩=Ah c.regs R.d i.d (AC c.regs i R))
 (hb:Ah c.regs R.d i.d (AC c.regs i R)=true->At c.regs L.b i.a (dR c.regs L.a i.d)=Ah c.regs R.a i.a (AC c.regs i R))
 (hc:Ah c.regs R.d i.d (AC c.regs i R)=true->At c.regs L.c i.b (dR c.regs L.a i.d)=Ah c.regs R.b i.b (AC c.regs i R))
 (hd:Ah c.regs R.d i.d (AC c.regs i R)=true->At c.regs L.d i.c (dR c.regs L.a i.d)=Ah c.regs R.c i.c (AC c.regs i R))
 (he:Dl c L.e i.n (tR c.regs L.a L.b i.d i.a)=EW c i.n R.n (AC c.regs i R)):Ew c i L=AS c i R:=by
 unfold Ew AS Bh;rw[if_neg h7,ha,he];have:(i.op==1)=false:=by simpa using h1
 rw[this,Bool.false_or];cases hX:Ah c.regs R.d i.d (AC c.regs i R)
 .simp
 .rw[hb hX,hc hX,hd hX];cases hb:(i.bits==0)
  .simp
  .have:i.bits=0:=by simpa using hb
   rw[this,told0];simp
theorem NJ{c:Cd}(h:Ax c=true)(i:Ad):Ew c i (DR i.op)=AS c i (A4 i.op):=by
 have x:=fun n=>@oper_x c h n i.d;by_cases h1:i.op=1
 .have e1:DR i.op=⟨110,45,45,45,45⟩:=by rw[h1];rfl
  have e2:A4 i.op=⟨1,0,0,0,7⟩:=by rw[h1];rfl
  rw[e1,e2];unfold Ew AS Bh;simp only;rw[h1,Ip _ _ _ (AC c.regs i ⟨1,0,0,0,7⟩),F1,F1,F1,Fb,Fb,Fb];rw[show Dl c 45 i.n (tR c.regs 110 45 i.d i.a)=(i.n==0)from rfl];generalize Ah c.regs 1 i.d _=A1;cases A1<;>cases CN i.bits<;>simp
 unfold DR A4;rw[if_neg h1,if_neg h1];by_cases h2:i.op=2
 .rw[if_pos h2,if_pos h2];exact B9 h1 dE (Db _ _ _ _) (fun _=>Ay _ _ _ _) (fun _=>Ay _ _ _ _) (fun _=>Ay _ _ _ _) rfl
 rw[if_neg h2,if_neg h2];by_cases h3:i.op=3
 .rw[if_pos h3,if_pos h3];exact B9 h1 dE (Q9 _ _ _) (fun _=>oper_c _ _ _) (fun _=>Ay _ _ _ _) (fun _=>Ay _ _ _ _) rfl
 rw[if_neg h3,if_neg h3];by_cases h4:4<=i.op/\i.op<=10
 .rw[if_pos h4,if_pos h4];exact B9 h1 dE (Qa _ _ _ _) (x _) (x _) (fun _=>Ay _ _ _ _) rfl
 rw[if_neg h4,if_neg h4];by_cases h5:11<=i.op/\i.op<=14
 .rw[if_pos h5,if_pos h5];exact B9 h1 dE (Qa _ _ _ _) (x _) (fun _=>Ay _ _ _ _) (fun _=>Ay _ _ _ _) rfl
 rw[if_neg h5,if_neg h5];by_cases h6:i.op=15
 .rw[if_pos h6,if_pos h6];exact B9 h1 dE (Qa _ _ _ _) (x _) (x _) (x _) rfl
 rw[if_neg h6,if_neg h6];by_cases h7:i.op=16
 .rw[if_pos h7,if_pos h7];exact B9 h1 dE (Ip _ _ _ _) (fun _=>Ip _ _ _ _) (fun _=>Db _ _ _ _) (fun _=>Ay _ _ _ _) rfl
 rw[if_neg h7,if_neg h7];by_cases h8:i.op=17
 .rw[if_pos h8,if_pos h8];exact B9 h1 dE (Ip _ _ _ _) (fun _=>Db _ _ _ _) (fun _=>Ay _ _ _ _) (fun _=>Ay _ _ _ _) rfl
 rw[if_neg h8,if_neg h8];by_cases h9:i.op=18
 .rw[if_pos h9,if_pos h9];exact B9 h1 dE (Db _ _ _ _) (fun _=>Ip _ _ _ _) (fun _=>Ay _ _ _ _) (fun _=>Ay _ _ _ _) rfl
 rw[if_neg h9,if_neg h9];by_cases h10:19<=i.op/\i.op<=20
 .rw[if_pos h10,if_pos h10];exact B9 h1 dE (Ip _ _ _ _) (fun _=>Qb _ _ _ _) (fun _=>Ay _ _ _ _) (fun _=>Ay _ _ _ _) rfl
 rw[if_neg h10,if_neg h10];by_cases h11:i.op=21\/i.op=25
 .rw[if_pos h11,if_pos h11];exact B9 h1 dE (Db _ _ _ _) (fun _=>Db _ _ _ _) (fun _=>Ay _ _ _ _) (fun _=>Ay _ _ _ _) rfl
 rw[if_neg h11,if_neg h11];by_cases h12:i.op=26
 .rw[if_pos h12,if_pos h12];exact B9 h1 dE (Db _ _ _ _) (fun _=>Db _ _ _ _) (fun _=>Db _ _ _ _) (fun _=>Db _ _ _ _) rfl
 rw[if_neg h12,if_neg h12];by_cases h13:22<=i.op/\i.op<=28
 .rw[if_pos h13,if_pos h13];exact B9 h1 dE (Db _ _ _ _) (fun _=>Db _ _ _ _) (fun _=>Db _ _ _ _) (fun _=>Ay _ _ _ _) rfl
 rw[if_neg h13,if_neg h13];by_cases h14:29<=i.op/\i.op<=30
 .rw[if_pos h14,if_pos h14];exact B9 h1 dE (Qb _ _ _ _) (fun _=>Ay _ _ _ _) (fun _=>Ay _ _ _ _) (fun _=>Ay _ _ _ _) rfl
 rw[if_neg h14,if_neg h14];by_cases h15:i.op=31
 .rw[if_pos h15,if_pos h15];exact B9 h1 dE (Ay _ _ _ _) (fun _=>Qb _ _ _ _) (fun _=>Ay _ _ _ _) (fun _=>Ay _ _ _ _) rfl
 rw[if_neg h15,if_neg h15];by_cases h16:i.op=32
 .rw[if_pos h16,if_pos h16];exact B9 h1 dE (Q9 _ _ _) (fun _=>Ay _ _ _ _) (fun _=>Ay _ _ _ _) (fun _=>Ay _ _ _ _) rfl
 rw[if_neg h16,if_neg h16];by_cases h17:i.op=33
 .rw[if_pos h17,if_pos h17];exact B9 h1 dE (Ay _ _ _ _) (fun _=>Q9 _ _ _) (fun _=>Ay _ _ _ _) (fun _=>Ay _ _ _ _) rfl
 rw[if_neg h17,if_neg h17];by_cases h18:i.op=34
 .rw[if_pos h18,if_pos h18];exact B9 h1 dE (Ay _ _ _ _) (fun _=>Db _ _ _ _) (fun _=>Ay _ _ _ _) (fun _=>Ay _ _ _ _) rfl
 rw[if_neg h18,if_neg h18];by_cases h19:i.op=36
 .rw[if_pos h19,if_pos h19];exact Zfr
 rw[if_neg h19,if_neg h19];exact Zfr
theorem Si(op:Int)(hk:Al op=true):∃a b c d e:UInt8,((a.toNat:Int)=(DR op).a/\(b.toNat:Int)=(DR op).b/\(c.toNat:Int)=(DR op).c/\(d.toNat:Int)=(DR op).d/\(e.toNat:Int)=(DR op).e)/\∀w,Calls prog 38 #[.int .i64 op] w fun x w'=>x=.returned (.tuple #[.string ⟨#[a,b,c,d,e]⟩,.bool true])/\w'=w:=by
 have hh:1<=op/\op<=37:=by unfold Al at hk;simp at hk;omega
 clear hk;have:op=1\/op=2\/op=3\/op=4\/op=5\/op=6\/op=7\/op=8\/op=9\/op=10\/op=11\/op=12\/op=13\/op=14\/op=15\/op=16\/op=17\/op=18\/op=19\/op=20\/op=21\/op=22\/op=23\/op=24\/op=25\/op=26\/op=27\/op=28\/op=29\/op=30\/op=31\/op=32\/op=33\/op=34\/op=35\/op=36\/op=37:=oM;rcases this with rfl|rfl|rfl|rfl|rfl|rfl|rfl|rfl|rfl|rfl|rfl|rfl|rfl|rfl|rfl|rfl|rfl|rfl|rfl|rfl|rfl|rfl|rfl|rfl|rfl|rfl|rfl|rfl|rfl|rfl|rfl|rfl|rfl|rfl|rfl|rfl|rfl
 .exact⟨_,_,_,_,_,⟨rfl,rfl,rfl,rfl,rfl⟩,fun w=>Xi w⟩
 .exact⟨_,_,_,_,_,⟨rfl,rfl,rfl,rfl,rfl⟩,fun w=>Xj w⟩
 .exact⟨_,_,_,_,_,⟨rfl,rfl,rfl,rfl,rfl⟩,fun w=>Xk w⟩
 .exact⟨_,_,_,_,_,⟨rfl,rfl,rfl,rfl,rfl⟩,fun w=>Xl w⟩
 .exact⟨_,_,_,_,_,⟨rfl,rfl,rfl,rfl,rfl⟩,fun w=>Xm w⟩
 .exact⟨_,_,_,_,_,⟨rfl,rfl,rfl,rfl,rfl⟩,fun w=>Xn w⟩
 .exact⟨_,_,_,_,_,⟨rfl,rfl,rfl,rfl,rfl⟩,fun w=>Xo w⟩
 .exact⟨_,_,_,_,_,⟨rfl,rfl,rfl,rfl,rfl⟩,fun w=>Xp w⟩
 .exact⟨_,_,_,_,_,⟨rfl,rfl,rfl,rfl,rfl⟩,fun w=>Xq w⟩
 .exact⟨_,_,_,_,_,⟨rfl,rfl,rfl,rfl,rfl⟩,fun w=>RK w⟩
 .exact⟨_,_,_,_,_,⟨rfl,rfl,rfl,rfl,rfl⟩,fun w=>RM w⟩
 .exact⟨_,_,_,_,_,⟨rfl,rfl,rfl,rfl,rfl⟩,fun w=>RN w⟩
 .exact⟨_,_,_,_,_,⟨rfl,rfl,rfl,rfl,rfl⟩,fun w=>RO w⟩
 .exact⟨_,_,_,_,_,⟨rfl,rfl,rfl,rfl,rfl⟩,fun w=>RP w⟩
 .exact⟨_,_,_,_,_,⟨rfl,rfl,rfl,rfl,rfl⟩,fun w=>RQ w⟩
 .exact⟨_,_,_,_,_,⟨rfl,rfl,rfl,rfl,rfl⟩,fun w=>RS w⟩
 .exact⟨_,_,_,_,_,⟨rfl,rfl,rfl,rfl,rfl⟩,fun w=>RT w⟩
 .exact⟨_,_,_,_,_,⟨rfl,rfl,rfl,rfl,rfl⟩,fun w=>RU w⟩
 .exact⟨_,_,_,_,_,⟨rfl,rfl,rfl,rfl,rfl⟩,fun w=>RV w⟩
 .exact⟨_,_,_,_,_,⟨rfl,rfl,rfl,rfl,rfl⟩,fun w=>RX w⟩
 .exact⟨_,_,_,_,_,⟨rfl,rfl,rfl,rfl,rfl⟩,fun w=>RY w⟩
 .exact⟨_,_,_,_,_,⟨rfl,rfl,rfl,rfl,rfl⟩,fun w=>RZ w⟩
 .exact⟨_,_,_,_,_,⟨rfl,rfl,rfl,rfl,rfl⟩,fun w=>S2 w⟩
 .exact⟨_,_,_,_,_,⟨rfl,rfl,rfl,rfl,rfl⟩,fun w=>S3 w⟩
 .exact⟨_,_,_,_,_,⟨rfl,rfl,rfl,rfl,rfl⟩,fun w=>S4 w⟩
 .exact⟨_,_,_,_,_,⟨rfl,rfl,rfl,rfl,rfl⟩,fun w=>S6 w⟩
 .exact⟨_,_,_,_,_,⟨rfl,rfl,rfl,rfl,rfl⟩,fun w=>S7 w⟩
 .exact⟨_,_,_,_,_,⟨rfl,rfl,rfl,rfl,rfl⟩,fun w=>S8 w⟩
 .exact⟨_,_,_,_,_,⟨rfl,rfl,rfl,rfl,rfl⟩,fun w=>S9 w⟩
 .exact⟨_,_,_,_,_,⟨rfl,rfl,rfl,rfl,rfl⟩,fun w=>Sa w⟩
 .exact⟨_,_,_,_,_,⟨rfl,rfl,rfl,rfl,rfl⟩,fun w=>Sb w⟩
 .exact⟨_,_,_,_,_,⟨rfl,rfl,rfl,rfl,rfl⟩,fun w=>Sc w⟩
 .exact⟨_,_,_,_,_,⟨rfl,rfl,rfl,rfl,rfl⟩,fun w=>Sd w⟩
 .exact⟨_,_,_,_,_,⟨rfl,rfl,rfl,rfl,rfl⟩,fun w=>Se w⟩
 .exact⟨_,_,_,_,_,⟨rfl,rfl,rfl,rfl,rfl⟩,fun w=>Sf w⟩
 .exact⟨_,_,_,_,_,⟨rfl,rfl,rfl,rfl,rfl⟩,fun w=>Sg w⟩
 .exact⟨_,_,_,_,_,⟨rfl,rfl,rfl,rfl,rfl⟩,fun w=>Sh w⟩
def Ca(b:Int):Prop:=b=45\/b=110\/b=119\/b=118\/b=100\/b=120\/b=99\/b=97
instance (b:Int):Decidable (Ca b):=by unfold Ca;infer_instance
def okL(L:Lt):Bool:=decide (Ca L.a)&&(decide (Ca L.b)&&(decide (Ca L.c)&&(decide (Ca L.d)&&(decide (L.e=45\/L.e=105\/L.e=112\/L.e=115\/L.e=113)&&decide (L.e=112->L.a=118\/(L.a=45/\L.b=118))))))
theorem Zx{p:Prop}[Decidable p]{x y:Lt}(h:okL x=true)(k:okL y=true):okL (if p then x else y)=true:=by
 split
 .exact h
 .exact k
theorem Zm(op:Int):okL (DR op)=true:=by
 unfold DR
 iterate 19 refine Zx dE ?_
 decide
theorem ltR_ok(op:Int):Ca (DR op).a/\Ca (DR op).b/\Ca (DR op).c/\Ca (DR op).d/\((DR op).e=45\/(DR op).e=105\/(DR op).e=112\/(DR op).e=115\/(DR op).e=113)/\((DR op).e=112->(DR op).a=118\/((DR op).a=45/\(DR op).b=118)):=by
 have:=Zm op;unfold okL at this;simp only[Bool.and_eq_true,decide_eq_true_eq]at this;exact this
theorem Wy(v0 v1 v2 v3:Value)(i:Ad)(h0:0<=i.bits)(h1:i.bits<4294967296)(h:(Al i.op&&((i.op==1||i.bits==0)&&CN i.bits))=false)(w:World):
 Calls prog 57 #[.agg #[v0,v1,v2,v3],Ch i] w fun e w'=>e=.returned (.bool false)/\Below w.heap.size w w':=by
 have HCAN:Hid (∀w,Calls prog 56 #[.int .u32 i.bits] w fun e w'=>e=.returned (.bool (CN i.bits))/\Below w.heap.size w w'):=Eg i.bits h0 h1;cases hk:Al i.op
 .have HROW:Hid (∀w,Calls prog 38 #[.int .i64 i.op] w fun e w'=>e=.returned (.tuple #[.string ⟨#[]⟩,.bool false])/\w'=w):=M9 i.op hk;obtain⟨op,D,A,B,E,n,bt⟩:=i;unfold Ch;simp only at HROW HCAN |-;clear h hk;go_enter func57,ntmps57;go_wp2_with(go_at_call 38;refine(HROW.out _).mono ?_;rintro e w1 ⟨rfl,rfl⟩);go_ret;exact UP
 .obtain⟨a,b,c,d,e,-,hc⟩:=Si i.op hk;have HROW:Hid (∀w,Calls prog 38 #[.int .i64 i.op] w fun x w'=>x=.returned (.tuple #[.string ⟨#[a,b,c,d,e]⟩,.bool true])/\w'=w):=hc;rw[hk,Bool.true_and]at h;clear hc hk;obtain⟨op,D,A,B,E,n,bt⟩:=i;unfold Ch;simp only at HROW HCAN h |-;cases ho:(op==1)
  .have ho':(op != 1)=true:=by simpa using ho
   cases hz:(bt==0)
   .have hz':(bt != 0)=true:=by simpa using hz
    clear h;go_enter func57,ntmps57;go_wp2_with(go_at_call 38;refine(HROW.out _).mono ?_;rintro e w1 ⟨rfl,rfl⟩);go_ret;exact UP
   .rw[ho,hz,Bool.false_or,Bool.true_and]at h;rw[h]at HCAN;have hz':(bt != 0)=false:=by simpa using hz
    exact Zda
  .rw[ho,Bool.true_or,Bool.true_and]at h;rw[h]at HCAN;have ho':(op != 1)=false:=by simpa using ho
   exact Zda
structure TW(w:World)(v0 v1 v2 v3:Value)(J:Nat)(op D A B E n bt:Int)(v:World):Prop where
 bel:Below w.heap.size w v
 c0:v.cell? ⟨w.heap.size,0,none⟩=some v0
 c1:v.cell? ⟨w.heap.size,1,none⟩=some v1
 c2:v.cell? ⟨w.heap.size,2,none⟩=some v2
 c3:v.cell? ⟨w.heap.size,3,none⟩=some v3
 i0:v.cell? ⟨J,0,none⟩=some (.int .i64 op)
 i1:v.cell? ⟨J,1,none⟩=some (.int .i64 D)
 i2:v.cell? ⟨J,2,none⟩=some (.int .i64 A)
 i3:v.cell? ⟨J,3,none⟩=some (.int .i64 B)
 i4:v.cell? ⟨J,4,none⟩=some (.int .i64 E)
 i5:v.cell? ⟨J,5,none⟩=some (.int .i64 n)
 i6:v.cell? ⟨J,6,none⟩=some (.int .u32 bt)
theorem TW.next{w:World}{v0 v1 v2 v3:Value}{J:Nat}{op D A B E n bt:Int}{v v':World}(h:TW w v0 v1 v2 v3 J op D A B E n bt v)(k:Below v.heap.size v v'):TW w v0 v1 v2 v3 J op D A B E n bt v':=
 ⟨Go.Proofs.YtnbccaicijcklaaGreat.bel h.bel k,kc k h.c0,kc k h.c1,kc k h.c2,kc k h.c3,kc k h.i0,kc k h.i1,kc k h.i2,kc k h.i3,kc k h.i4,kc k h.i5,kc k h.i6⟩
theorem TW.keep{w:World}{v0 v1 v2 v3:Value}{J:Nat}{op D A B E n bt:Int}{v:World}(h:TW w v0 v1 v2 v3 J op D A B E n bt v){g o:Nat}(x:Value)(h1:w.heap.size<g)(h2:g≠J):TW w v0 v1 v2 v3 J op D A B E n bt (v.setCell ⟨g,o,none⟩ x):=by
 have f1:∀j,(v.setCell ⟨g,o,none⟩ x).cell? ⟨w.heap.size,j,none⟩=v.cell? ⟨w.heap.size,j,none⟩:=fun j=>gC (gE (by show w.heap.size≠g;omega));have f2:∀j,(v.setCell ⟨g,o,none⟩ x).cell? ⟨J,j,none⟩=v.cell? ⟨J,j,none⟩:=fun j=>gC (gE (by show J≠g;omega));exact⟨h.bel.setCell Zhu _,(f1 0).trans h.c0,(f1 1).trans h.c1,(f1 2).trans h.c2,(f1 3).trans h.c3,(f2 0).trans h.i0,(f2 1).trans h.i1,(f2 2).trans h.i2,(f2 3).trans h.i3,(f2 4).trans h.i4,(f2 5).trans h.i5,(f2 6).trans h.i6⟩
theorem TW.start(w:World)(v0 v1 v2 v3:Value)(op D A B E n bt:Int):TW w v0 v1 v2 v3 (w.heap.size+1) op D A B E n bt ((w.alloc (.cells #[v0,v1,v2,v3] 27)).alloc (.cells #[.int .i64 op,.int .i64 D,.int .i64 A,.int .i64 B,.int .i64 E,.int .i64 n,.int .u32 bt] 40)):=by
 have k:=A0 (w.alloc (.cells #[v0,v1,v2,v3] 27)) (.cells #[.int .i64 op,.int .i64 D,.int .i64 A,.int .i64 B,.int .i64 E,.int .i64 n,.int .u32 bt] 40);exact⟨Go.Proofs.YtnbccaicijcklaaGreat.bel (A0 _ _) k,kc k sG,kc k sG,kc k sG,kc k sG,sG,sG,sG,sG,sG,sG,sG⟩
theorem E0{n:Nat}{w v:World}(h:Below n w v):Below n w v.drew:=h.drew
instance:DecidableEq BJ:=fun a b=>by
 cases a;cases b
 simp only[BJ.mk.injEq];exact inferInstanceAs (Decidable (_/\_/\_))
theorem DO{P:Program}{w:World}{ops:Array Oper}{o:Oper}{a:Act}{K:Act->World->Prop}{Q:Exit->Act->World->Prop}{E:Prop}(hgd:o.guard=none)(t:TypeId)(x y:Operand)(yt:TypeId)
 (ho:o.op=.binOp .neq t x y yt) (v1 v2 v:Value) (hx:a.eval x=v1) (hy:a.eval y=v2) (hg:(eqGuard .neq t x y v1 v2).run P w=.ok () w) (hr:(binOp .neq t v1 v2).run P w=.ok v w) (h:K (a.put o.dst v) w):
 if Region.wanted o (yielded ops a.tmps)=true then Oper.wp P o a w K Q else E:=by
 have hw:Region.wanted o (yielded ops a.tmps)=true:=by simp[Region.wanted,hgd]
 rw[if_pos hw];unfold Oper.wp execOp;simp only[ho,Sem.run_bind,Sem.run_pure,Result.andThen_ok,hx,hy,hg,hr];exact h
theorem Zr(a b:BJ)(w:World):(binOp .neq 67 (pv a) (pv b)).run prog w=.ok (.bool (!decide (a=b))) w:=by
 obtain⟨x0,x1,x2⟩:=a;obtain⟨y0,y1,y2⟩:=b;unfold pv;by_cases h0:x0=y0
 .subst h0;by_cases h1:x1=y1
  .subst h1;by_cases h2:x2=y2
   .subst h2;go_simp
   .go_simp
  .go_simp
 .go_simp;exact fun e=>absurd (Go.WideShapes.bytes_inj (by rwa[ByteArray.toList_eq,ByteArray.toList_eq]at e)) h0
theorem R9(p q:Operand)(a b:BJ)(w:World):(eqGuard .neq 67 p q (pv a) (pv b)).run prog w=.ok () w:=by
 obtain⟨x0,x1,x2⟩:=a;obtain⟨y0,y1,y2⟩:=b;unfold pv;simp[eqGuard,go_sem]
theorem neq_Ty(a b:Ty)(w:World):(binOp .neq 59 (DY a) (DY b)).run prog w=.ok (.bool (!decide (a=b))) w:=by
 obtain⟨x0,x1⟩:=a;obtain⟨y0,y1⟩:=b;unfold DY;by_cases h0:x0=y0
 .subst h0;by_cases h1:x1=y1
  .subst h1;go_simp
  .go_simp
 .go_simp
theorem Vr(p q:Operand)(a b:Ty)(w:World):(eqGuard .neq 59 p q (DY a) (DY b)).run prog w=.ok () w:=by
 obtain⟨x0,x1⟩:=a;obtain⟨y0,y1⟩:=b;unfold DY;simp[eqGuard,go_sem]
theorem neq_Sl(a b:Sl)(w:World):(binOp .neq 64 (Sk a) (Sk b)).run prog w=.ok (.bool (!decide (a=b))) w:=by
 obtain⟨⟨x0,x1⟩,x2,x3,x4⟩:=a;obtain⟨⟨y0,y1⟩,y2,y3,y4⟩:=b;unfold Sk;by_cases h0:x0=y0
 .subst h0;by_cases h1:x1=y1
  .subst h1;by_cases h2:x2=y2
   .subst h2;by_cases h3:x3=y3
    .subst h3;by_cases h4:x4=y4
     .subst h4;go_simp
     .go_simp
    .go_simp
   .go_simp
  .go_simp
 .go_simp
theorem Vq(p q:Operand)(a b:Sl)(w:World):(eqGuard .neq 64 p q (Sk a) (Sk b)).run prog w=.ok () w:=by
 obtain⟨⟨x0,x1⟩,x2,x3,x4⟩:=a;obtain⟨⟨y0,y1⟩,y2,y3,y4⟩:=b;unfold Sk;simp[eqGuard,go_sem]
theorem Zq(a b:Ad)(w:World):(binOp .neq 40 (Ch a) (Ch b)).run prog w=.ok (.bool (!decide (a=b))) w:=by
 obtain⟨x0,x1,x2,x3,x4,x5,x6⟩:=a;obtain⟨y0,y1,y2,y3,y4,y5,y6⟩:=b;unfold Ch;by_cases h0:x0=y0
 .subst h0;by_cases h1:x1=y1
  .subst h1;by_cases h2:x2=y2
   .subst h2;by_cases h3:x3=y3
    .subst h3;by_cases h4:x4=y4
     .subst h4;by_cases h5:x5=y5
      .subst h5;by_cases h6:x6=y6
       .subst h6;go_simp
       .go_simp
      .go_simp
     .go_simp
    .go_simp
   .go_simp
  .go_simp
 .go_simp
theorem R8(p q:Operand)(a b:Ad)(w:World):(eqGuard .neq 40 p q (Ch a) (Ch b)).run prog w=.ok () w:=by
 obtain⟨x0,x1,x2,x3,x4,x5,x6⟩:=a;obtain⟨y0,y1,y2,y3,y4,y5,y6⟩:=b;unfold Ch;simp[eqGuard,go_sem]
theorem ZV(v0 v1 v2 v3:Value)(c:Cd)(co:Ba c)(hT:Ax c=true)(op D A B E n bt La Lb Lc Ld Le:Int)(a b cc d e:UInt8)
 (HROW:Hid (∀w,Calls prog 38 #[.int .i64 op] w fun x w'=>x=.returned (.tuple #[.string ⟨#[a,b,cc,d,e]⟩,.bool true])/\w'=w))
 (HCAN:Hid (∀w,Calls prog 56 #[.int .u32 bt] w fun e w'=>e=.returned (.bool true)/\Below w.heap.size w w'))
 (ix0:∀w,(Instr.index 9 (.string ⟨#[a,b,cc,d,e]⟩) (.int .i64 0)).run prog w=.ok (.int .u8 La) w)
 (ix1:∀w,(Instr.index 9 (.string ⟨#[a,b,cc,d,e]⟩) (.int .i64 1)).run prog w=.ok (.int .u8 Lb) w)
 (ix2:∀w,(Instr.index 9 (.string ⟨#[a,b,cc,d,e]⟩) (.int .i64 2)).run prog w=.ok (.int .u8 Lc) w)
 (ix3:∀w,(Instr.index 9 (.string ⟨#[a,b,cc,d,e]⟩) (.int .i64 3)).run prog w=.ok (.int .u8 Ld) w)
 (Vz:∀w,(Instr.index 9 (.string ⟨#[a,b,cc,d,e]⟩) (.int .i64 4)).run prog w=.ok (.int .u8 Le) w)
 (oa:Ca La) (ob:Ca Lb) (oc:Ca Lc) (od:Ca Ld) (oT:Le=112->La=118\/(La=45/\Lb=118)) (o1:(op==1)=true) (o2:(op != 1)=false) (hz0:La≠45) (oe:Le=45)
 (w:World) (hv:CD w v0 v1 v2 v3 c):
 Calls prog 57 #[.agg #[v0,v1,v2,v3],.agg #[.int .i64 op,.int .i64 D,.int .i64 A,.int .i64 B,.int .i64 E,.int .i64 n,.int .u32 bt]] w fun e w'=>e=.returned (.bool (At c.regs La D ⟨0,0⟩&&(At c.regs Lb A (dR c.regs La D)&&(At c.regs Lc B (dR c.regs La D)&&(At c.regs Ld E (dR c.regs La D)&&Dl c Le n (tR c.regs La Lb D A))))))/\Below w.heap.size w w':=by
 have KO:∀ (l n:Int) (d:Ty),Ca l->∀v,Below w.heap.size w v->Calls prog 86 #[.agg #[v0,v1,v2,v3],.int .u8 l,.int .i64 n,.agg #[.int .i64 d.kind,.int .i64 d.par]] v fun e w'=>e=.returned (.bool (At c.regs l n d))/\Below v.heap.size v w':=fun l n d hl v hb=>Fw v0 v1 v2 v3 c co l n d hl v (hv.below hb);have HT0:Hid (TW w v0 v1 v2 v3 (w.heap.size+1) op D A B E n bt ((w.alloc (.cells #[v0,v1,v2,v3] 27)).alloc (.cells #[.int .i64 op,.int .i64 D,.int .i64 A,.int .i64 B,.int .i64 E,.int .i64 n,.int .u32 bt] 40))):=TW.start w v0 v1 v2 v3 op D A B E n bt;obtain⟨p0,q0,rfl,-⟩:=id hv.sign;obtain⟨p1,q1,rfl,hr1⟩:=id hv.regs;obtain⟨p2,q2,rfl,-⟩:=id hv.slots;have hREG:∀x:Int,Av x c.regs.length=true->∃ (k lb lo:Nat),x=(k:Int)/\k<c.regs.length/\p1=some ⟨lb,lo,none⟩/\w.cell? ⟨lb,lo+k*2,none⟩=some (.int .i64 (Aa c.regs x).kind)/\w.cell? ⟨lb,lo+k*2+1,none⟩=some (.int .i64 (Aa c.regs x).par):=by
  exact Zcl
 have HREG:Hid (∀x:Int,Av x c.regs.length=true->∃ (k lb lo:Nat),x=(k:Int)/\k<c.regs.length/\p1=some ⟨lb,lo,none⟩/\w.cell? ⟨lb,lo+k*2,none⟩=some (.int .i64 (Aa c.regs x).kind)/\w.cell? ⟨lb,lo+k*2+1,none⟩=some (.int .i64 (Aa c.regs x).par)):=hREG;have HCV:Hid (CD w (.slice p0 c.sign.length q0) (.slice p1 c.regs.length q1) (.slice p2 c.slots.length q2) v3 c):=hv;have HCO:Hid (Ba c):=co;have hB0:=co.signL;have hB1:=co.regsL;have hB2:=co.slotsL;have hTy:∀x:Int,Av x c.regs.length=true->GD 118 (Aa c.regs x) ⟨0,0⟩=true->Av (Aa c.regs x).par c.sign.length=true:=fun x hx hk=>by
  exact Zde
 obtain⟨n0,hn0⟩:=gA (c.sign.length)
 obtain⟨n1,hn1⟩:=gA (c.regs.length)
 obtain⟨n2,hn2⟩:=gA (c.slots.length)
 have HN0:Hid (c.sign.length=n0):=hn0;have HN1:Hid (c.regs.length=n1):=hn1;have HN2:Hid (c.slots.length=n2):=hn2;rw[hn0]at hB0;rw[hn1]at hB1;rw[hn2]at hB2;rw[hn0,hn1,hn2]at HCV KO HT0 |-;clear hREG hv hr1 hn0 hn1 hn2 co;have HTY:Hid (∀x:Int,Av x c.regs.length=true->GD 118 (Aa c.regs x) ⟨0,0⟩=true->Av (Aa c.regs x).par c.sign.length=true):=hTy;clear hTy hT;have hKO0:=fun d=>KO La D d oa;have hKOA:=fun d=>KO Lb A d ob;have hKOB:=fun d=>KO Lc B d oc;have hKOC:=fun d=>KO Ld E d od;clear KO;have hPP0:Le=112->La=118\/(La=45/\Lb=118):=oT;clear oT oc od;obtain⟨RES,hRES⟩:∃R,(At c.regs La D ⟨0,0⟩&&(At c.regs Lb A (dR c.regs La D)&&(At c.regs Lc B (dR c.regs La D)&&(At c.regs Ld E (dR c.regs La D)&&Dl c Le n (tR c.regs La Lb D A)))))=R:=⟨_,rfl⟩
 rw[hRES];have hz1:(La==45)=false:=by simpa using hz0
 have hz2:(La != 45)=true:=by simpa using hz0
 have hPL:At c.regs La D ⟨0,0⟩=true->Av D c.regs.length=true:=fun h=>by
  rw[BV hz0]at h;simp only[Bool.and_eq_true]at h;exact h.1
 have hPV:At c.regs La D ⟨0,0⟩=true->La=118->GD 118 (Aa c.regs D) ⟨0,0⟩=true:=fun h hl=>by
  exact Zff
 have hdR:dR c.regs La D=Aa c.regs D:=if_neg hz0;have htR:tR c.regs La Lb D A=Aa c.regs D:=by unfold tR;rw[if_neg (fun e=>hz0 e.1),hdR]
 rw[htR,hdR]at hRES;have HPP0:Hid (At c.regs La D ⟨0,0⟩=true->Le=112->Av (Aa c.regs D).par c.sign.length=true):=fun h e=>by
  rcases hPP0 e with h1|⟨h1,-⟩
  .exact HTY.out _ (hPL h) (hPV h h1)
  .exact absurd h1 hz0
 obtain⟨X0,hX0⟩:∃X,At c.regs La D ⟨0,0⟩=X:=⟨_,rfl⟩
 have HK0:Hid _:=hKO0 ⟨0,0⟩;rw[hX0]at hRES hPL HPP0 HK0;simp only at HK0;clear hX0 hPV hdR htR hKO0 hPP0 HTY;cases X0
 .exact Zal
 obtain⟨kd,lb,lo,rfl,hkd,rfl,ya0,ya1⟩:=HREG.out D (hPL rfl);obtain⟨⟨dk,dp⟩,htt⟩:∃t:Ty,Aa c.regs (kd:Int)=t:=⟨_,rfl⟩
 rw[htt]at HPP0 ya0 ya1 hRES;obtain⟨XA,hXA⟩:∃X,At c.regs Lb A ⟨dk,dp⟩=X:=⟨_,rfl⟩
 obtain⟨XB,hXB⟩:∃X,At c.regs Lc B ⟨dk,dp⟩=X:=⟨_,rfl⟩
 obtain⟨XC,hXC⟩:∃X,At c.regs Ld E ⟨dk,dp⟩=X:=⟨_,rfl⟩
 rw[hXA,hXB,hXC]at hRES;have HKA:Hid _:=hKOA ⟨dk,dp⟩;have HKB:Hid _:=hKOB ⟨dk,dp⟩;have HKC:Hid _:=hKOC ⟨dk,dp⟩;rw[hXA]at HKA;rw[hXB]at HKB;rw[hXC]at HKC;simp only at HKA HKB HKC;have HRES:Hid ((XA&&(XB&&(XC&&Dl c Le n ⟨dk,dp⟩)))=RES):=hRES;have HPP:Hid (Le=112->Av dp c.sign.length=true):=HPP0.out rfl;have ka0:(0:Int)<=(kd:Int):=oM;have ka1:(kd:Int)<(n1:Int):=by have:=HN1.out;omega
 clear hKOA hKOB hKOC hXA hXB hXC hRES HPP0 hPL htt;go_enter func57,ntmps57;go_wp2_with(first
  |(go_at_call 38;refine(HROW.out _).mono ?_;rintro e w1 ⟨rfl,rfl⟩)
  |(go_at_call 56;refine(HCAN.out _).mono ?_;rintro e w2 ⟨rfl,hb2⟩;have HT2:Hid (TW w (.slice p0 n0 q0) (.slice (some ⟨lb,lo,none⟩) n1 q1) (.slice p2 n2 q2) v3 (w.heap.size+1) op (kd:Int) A B E n bt (w2.alloc (.cells #[.int .i64 0,.int .i64 0] 59))):=(HT0.next hb2).next (A0 _ _);obtain⟨b1,c0,c1,c2,c3,i0,i1,i2,i3,i4,i5,i6⟩:=HT2.out;have HS2:Hid (w.heap.size+1<w2.heap.size):=A8 (HT0.next hb2).i0;clear hb2))
 have HTD0:Hid _:=HT2.out;have HD0:Hid ((w2.alloc (.cells #[.int .i64 0,.int .i64 0] 59)).cell? ⟨w2.heap.size,0,none⟩=some (.int .i64 0)/\(w2.alloc (.cells #[.int .i64 0,.int .i64 0] 59)).cell? ⟨w2.heap.size,1,none⟩=some (.int .i64 0)/\(w2.alloc (.cells #[.int .i64 0,.int .i64 0] 59)).frozen? ⟨w2.heap.size,0,none⟩=false/\(w2.alloc (.cells #[.int .i64 0,.int .i64 0] 59)).frozen? ⟨w2.heap.size,1,none⟩=false):=⟨sG,sG,sG,sG⟩
 have HBZ9:Hid (lb<w.heap.size):=A8 ya0;have HZ:Hid (w2.heap.size≠w.heap.size+1/\w.heap.size<w2.heap.size/\lb≠w2.heap.size):=by
  refine⟨?_,?_,?_⟩
  all_goals(have h3:=HS2.out;have h4:=HBZ9.out;omega)
 obtain⟨Z,hZ⟩:=gA (w2.heap.size)
 obtain⟨Wa,hWa⟩:∃W,w2.alloc (.cells #[.int .i64 0,.int .i64 0] 59)=W:=⟨_,rfl⟩
 rw[hZ]at HD0 HZ;rw[hWa]at HD0 HTD0 |-;try rw[hZ]
 clear hZ hWa HT2 b1 c0 c1 c2 c3 i0 i1 i2 i3 i4 i5 i6 HT0 HROW HCAN HS2;have HCD0:Hid (∀v,Below Wa.heap.size Wa v->v.cell? ⟨w.heap.size,0,none⟩=some (.slice p0 n0 q0)/\v.cell? ⟨w.heap.size,1,none⟩=some (.slice (some ⟨lb,lo,none⟩) n1 q1)/\v.cell? ⟨w.heap.size,2,none⟩=some (.slice p2 n2 q2)/\v.cell? ⟨w.heap.size,3,none⟩=some v3/\v.cell? ⟨w.heap.size+1,1,none⟩=some (.int .i64 (kd:Int))/\v.cell? ⟨w.heap.size+1,2,none⟩=some (.int .i64 A)/\v.cell? ⟨w.heap.size+1,3,none⟩=some (.int .i64 B)/\v.cell? ⟨w.heap.size+1,4,none⟩=some (.int .i64 E)/\v.cell? ⟨w.heap.size+1,5,none⟩=some (.int .i64 n)/\v.cell? ⟨Z,0,none⟩=some (.int .i64 0)/\v.cell? ⟨Z,1,none⟩=some (.int .i64 0)):=fun v hb=>⟨kc hb HTD0.c0,kc hb HTD0.c1,kc hb HTD0.c2,kc hb HTD0.c3,kc hb HTD0.i1,kc hb HTD0.i2,kc hb HTD0.i3,kc hb HTD0.i4,kc hb HTD0.i5,kc hb HD0.1,kc hb HD0.2.1⟩
 obtain⟨c0,c1,c2,c3,i1,i2,i3,i4,i5,d0,d1⟩:=HCD0.out Wa (BZ _);have HYA:Hid (∀v,Below Wa.heap.size Wa v->v.cell? ⟨lb,lo+kd*2,none⟩=some (.int .i64 dk)/\v.cell? ⟨lb,lo+kd*2+1,none⟩=some (.int .i64 dp)/\v.frozen? ⟨Z,0,none⟩=false/\v.frozen? ⟨Z,1,none⟩=false):=fun v hb=>⟨kc (bel HTD0.bel hb) ya0,kc (bel HTD0.bel hb) ya1,kf hb HD0.1 HD0.2.2.1,kf hb HD0.2.1 HD0.2.2.2⟩
 refine rG (fun v=>v.cell? ⟨w.heap.size,0,none⟩=some (.slice p0 n0 q0)/\v.cell? ⟨w.heap.size,1,none⟩=some (.slice (some ⟨lb,lo,none⟩) n1 q1)/\v.cell? ⟨w.heap.size,2,none⟩=some (.slice p2 n2 q2)/\v.cell? ⟨w.heap.size,3,none⟩=some v3/\v.cell? ⟨w.heap.size+1,1,none⟩=some (.int .i64 (kd:Int))/\v.cell? ⟨w.heap.size+1,2,none⟩=some (.int .i64 A)/\v.cell? ⟨w.heap.size+1,3,none⟩=some (.int .i64 B)/\v.cell? ⟨w.heap.size+1,4,none⟩=some (.int .i64 E)/\v.cell? ⟨w.heap.size+1,5,none⟩=some (.int .i64 n)/\v.cell? ⟨Z,0,none⟩=some (.int .i64 0)/\v.cell? ⟨Z,1,none⟩=some (.int .i64 0)) fun hJ=>?_;refine Tf 0 1 2 3 4 5 ?_;clear hJ;refine Aw 6 fun K hK=>?_;go_simp;(go_at_call 86;(with_reducible refine(HK0.out _ (bel HTD0.out.bel (A9 _))).mono ?_);rintro e w9 ⟨rfl,hb9⟩;have HB9:Hid (Below Wa.heap.size Wa w9):=bel (A9 _) hb9;clear hb9;obtain⟨ya2,ya3,fz0,fz1⟩:=HYA.out w9 HB9.out;obtain⟨c0,c1,c2,c3,i1,i2,i3,i4,i5,d0,d1⟩:=HCD0.out w9 HB9.out);try(go_wp2_with fail)
 refine Aq hK fun hJ=>?_;clear hK K;refine Bo 7 ?_;refine wpAnyH_done kR ?_ _;obtain⟨hz5,hz6,hz7⟩:=HZ.out;go_wp2;have HD:Hid (((w9.setCell ⟨Z,0,none⟩ (.int .i64 dk)).setCell ⟨Z,1,none⟩ (.int .i64 dp)).cell? ⟨Z,0,none⟩=some (.int .i64 dk)/\((w9.setCell ⟨Z,0,none⟩ (.int .i64 dk)).setCell ⟨Z,1,none⟩ (.int .i64 dp)).cell? ⟨Z,1,none⟩=some (.int .i64 dp)):=⟨by simp[go_sem,d0,d1],by simp[go_sem,d0,d1]⟩
 have HTD:Hid _:=((HTD0.next HB9.out).keep (g:=Z) (o:=0) (.int .i64 dk) hz6 hz5).keep (g:=Z) (o:=1) (.int .i64 dp) hz6 hz5;obtain⟨Wd,hWd⟩:∃W,(w9.setCell ⟨Z,0,none⟩ (.int .i64 dk)).setCell ⟨Z,1,none⟩ (.int .i64 dp)=W:=⟨_,rfl⟩
 rw[hWd]at HD HTD |-;clear hWd c0 c1 c2 c3 i1 i2 i3 i4 i5 d0 d1 ya2 ya3 fz0 fz1 HCD0 HYA HD0 HTD0 HB9 HK0 hz5 hz6 hz7 HZ;have HCD:Hid (∀v,Below Wd.heap.size Wd v->v.cell? ⟨w.heap.size,0,none⟩=some (.slice p0 n0 q0)/\v.cell? ⟨w.heap.size,1,none⟩=some (.slice (some ⟨lb,lo,none⟩) n1 q1)/\v.cell? ⟨w.heap.size,2,none⟩=some (.slice p2 n2 q2)/\v.cell? ⟨w.heap.size,3,none⟩=some v3/\v.cell? ⟨w.heap.size+1,1,none⟩=some (.int .i64 (kd:Int))/\v.cell? ⟨w.heap.size+1,2,none⟩=some (.int .i64 A)/\v.cell? ⟨w.heap.size+1,3,none⟩=some (.int .i64 B)/\v.cell? ⟨w.heap.size+1,4,none⟩=some (.int .i64 E)/\v.cell? ⟨w.heap.size+1,5,none⟩=some (.int .i64 n)/\v.cell? ⟨Z,0,none⟩=some (.int .i64 dk)/\v.cell? ⟨Z,1,none⟩=some (.int .i64 dp)):=fun v hb=>⟨kc hb HTD.c0,kc hb HTD.c1,kc hb HTD.c2,kc hb HTD.c3,kc hb HTD.i1,kc hb HTD.i2,kc hb HTD.i3,kc hb HTD.i4,kc hb HTD.i5,kc hb HD.1,kc hb HD.2⟩
 obtain⟨c0,c1,c2,c3,i1,i2,i3,i4,i5,d0,d1⟩:=HCD.out Wd (BZ _);cases XA
 .exact Zbb
 cases XB
 .have HQF:Hid (false=RES):=HRES.out;go_wp2;refine rG (fun v=>v.cell? ⟨w.heap.size,0,none⟩=some (.slice p0 n0 q0)/\v.cell? ⟨w.heap.size,1,none⟩=some (.slice (some ⟨lb,lo,none⟩) n1 q1)/\v.cell? ⟨w.heap.size,2,none⟩=some (.slice p2 n2 q2)/\v.cell? ⟨w.heap.size,3,none⟩=some v3/\v.cell? ⟨w.heap.size+1,1,none⟩=some (.int .i64 (kd:Int))/\v.cell? ⟨w.heap.size+1,2,none⟩=some (.int .i64 A)/\v.cell? ⟨w.heap.size+1,3,none⟩=some (.int .i64 B)/\v.cell? ⟨w.heap.size+1,4,none⟩=some (.int .i64 E)/\v.cell? ⟨w.heap.size+1,5,none⟩=some (.int .i64 n)/\v.cell? ⟨Z,0,none⟩=some (.int .i64 dk)/\v.cell? ⟨Z,1,none⟩=some (.int .i64 dp)) fun hJ=>?_;exact Zav
 cases XC
 .have HQF:Hid (false=RES):=HRES.out;go_wp2;refine rG (fun v=>v.cell? ⟨w.heap.size,0,none⟩=some (.slice p0 n0 q0)/\v.cell? ⟨w.heap.size,1,none⟩=some (.slice (some ⟨lb,lo,none⟩) n1 q1)/\v.cell? ⟨w.heap.size,2,none⟩=some (.slice p2 n2 q2)/\v.cell? ⟨w.heap.size,3,none⟩=some v3/\v.cell? ⟨w.heap.size+1,1,none⟩=some (.int .i64 (kd:Int))/\v.cell? ⟨w.heap.size+1,2,none⟩=some (.int .i64 A)/\v.cell? ⟨w.heap.size+1,3,none⟩=some (.int .i64 B)/\v.cell? ⟨w.heap.size+1,4,none⟩=some (.int .i64 E)/\v.cell? ⟨w.heap.size+1,5,none⟩=some (.int .i64 n)/\v.cell? ⟨Z,0,none⟩=some (.int .i64 dk)/\v.cell? ⟨Z,1,none⟩=some (.int .i64 dp)) fun hJ=>?_;exact Zan
 go_wp2;refine rG (fun v=>v.cell? ⟨w.heap.size,0,none⟩=some (.slice p0 n0 q0)/\v.cell? ⟨w.heap.size,1,none⟩=some (.slice (some ⟨lb,lo,none⟩) n1 q1)/\v.cell? ⟨w.heap.size,2,none⟩=some (.slice p2 n2 q2)/\v.cell? ⟨w.heap.size,3,none⟩=some v3/\v.cell? ⟨w.heap.size+1,1,none⟩=some (.int .i64 (kd:Int))/\v.cell? ⟨w.heap.size+1,2,none⟩=some (.int .i64 A)/\v.cell? ⟨w.heap.size+1,3,none⟩=some (.int .i64 B)/\v.cell? ⟨w.heap.size+1,4,none⟩=some (.int .i64 E)/\v.cell? ⟨w.heap.size+1,5,none⟩=some (.int .i64 n)/\v.cell? ⟨Z,0,none⟩=some (.int .i64 dk)/\v.cell? ⟨Z,1,none⟩=some (.int .i64 dp)) fun hJ=>?_;refine Tf 0 1 2 3 4 5 ?_;clear hJ;refine Aw 6 fun K hK=>?_;go_simp;(go_at_call 86;(with_reducible refine(HKA.out _ (bel HTD.out.bel (A9 _))).mono ?_);rintro e w3 ⟨rfl,hb9⟩;have HB3:Hid (Below Wd.heap.size Wd w3):=bel (A9 _) hb9;clear hb9;obtain⟨c0,c1,c2,c3,i1,i2,i3,i4,i5,d0,d1⟩:=HCD.out w3 HB3.out);try(go_wp2_with fail)
 refine Aq hK fun hJ=>?_;clear hK K;refine Tf 7 8 9 10 11 12 ?_;refine Tb 13 14 ?_;clear hJ;refine Aw 15 fun K hK=>?_;go_simp;(go_at_call 86;(with_reducible refine(HKB.out _ (bel HTD.out.bel HB3.out)).mono ?_);rintro e w4 ⟨rfl,hb9⟩;have HB4:Hid (Below Wd.heap.size Wd w4):=bel HB3.out hb9;clear hb9;clear c0 c1 c2 c3 i1 i2 i3 i4 i5 d0 d1;obtain⟨c0,c1,c2,c3,i1,i2,i3,i4,i5,d0,d1⟩:=HCD.out w4 HB4.out);try(go_wp2_with fail)
 refine Aq hK fun hJ=>?_;clear hK K;refine Tf 16 17 18 19 20 21 ?_;refine Tc 22 23 24 ?_;clear hJ;refine Aw 25 fun K hK=>?_;go_simp;(go_at_call 86;(with_reducible refine(HKC.out _ (bel HTD.out.bel HB4.out)).mono ?_);rintro e w5 ⟨rfl,hb9⟩;have HB5:Hid (Below Wd.heap.size Wd w5):=bel HB4.out hb9;clear hb9;clear c0 c1 c2 c3 i1 i2 i3 i4 i5 d0 d1;obtain⟨c0,c1,c2,c3,i1,i2,i3,i4,i5,d0,d1⟩:=HCD.out w5 HB5.out);try(go_wp2_with fail)
 refine Aq hK fun hJ=>?_;clear hK K;refine Tb 26 27 ?_;refine wpAnyH_done kR ?_ _;clear c0 c1 c2 c3 i1 i2 i3 i4 i5 d0 d1;have HT5:Hid (TW w (.slice p0 n0 q0) (.slice (some ⟨lb,lo,none⟩) n1 q1) (.slice p2 n2 q2) v3 (w.heap.size+1) op (kd:Int) A B E n bt w5):=HTD.next HB5.out;obtain⟨hb5,c0,c1,c2,c3,i0,i1,i2,i3,i4,i5,i6⟩:=HT5.out;obtain⟨-,-,-,-,-,-,-,-,-,d0,d1⟩:=HCD.out w5 HB5.out;have hs5:w5.heap.size≠w.heap.size+1/\w.heap.size<w5.heap.size:=⟨fun e=>by have:=A8 i0;simp only at this;omega,by have:=A8 c0;simp only at this;omega⟩
 have HAL:Hid (TW w (.slice p0 n0 q0) (.slice (some ⟨lb,lo,none⟩) n1 q1) (.slice p2 n2 q2) v3 (w.heap.size+1) op (kd:Int) A B E n bt (w5.alloc (.cells #[.int .i64 dk,.int .i64 dp] 59))):=HT5.next (A0 _ _);have HRT:Hid (Dl c Le n ⟨dk,dp⟩=RES):=HRES.out;clear c0 c1 c2 c3 i0 i1 i2 i3 i4 i5 i6;have t0:(w5.alloc (.cells #[.int .i64 dk,.int .i64 dp] 59)).cell? ⟨w5.heap.size,0,none⟩=some (.int .i64 dk):=sG;have t1:(w5.alloc (.cells #[.int .i64 dk,.int .i64 dp] 59)).cell? ⟨w5.heap.size,1,none⟩=some (.int .i64 dp):=sG;obtain⟨hbx,c0,c1,c2,c3,i0,i1,i2,i3,i4,i5,i6⟩:=HAL.out;clear d0 d1 HRES;have hbt:=hbx;subst oe;exact Zdr
def OQ(s:Wk)(op:Int):Bool:=if op=34\/op=36 then decide (s.opens.length<64)else if op=35 then decide (0<s.opens.length)&& !AD s else if op=37 then AD s else true
def O1(c:Cd)(s:Wk)(i:Ad):Bool:=AD s&&(i.op != 37&&GF c.regs (FL i) != Co s)
def E6(s:Wk):Prop:=∀b∈s.opens,b.loop=true->0<=b.par
theorem E6.inner{s:Wk}(h:E6 s)(hl:AD s=true):0<=Co s:=by
 obtain⟨S,O⟩:=s;cases O with
 |nil=>exact Int.le_refl _
 |cons b r=>exact h b (List.mem_cons_self ..) hl
theorem IL{i:Ad}(h:CS i.op=false):FL i= -1:=by
 unfold CS at h;simp only[Bool.or_eq_false_iff]at h;have h1:(i.op==29)=false/\(i.op==30)=false/\(i.op==31)=false/\(i.op==32)=false/\(i.op==33)=false:=by
  have:=h.1;simp only[Bool.and_eq_false_iff,decide_eq_false_iff_not]at this;simp only[beq_eq_false_iff_ne,ne_eq];omega
 unfold FL;rw[h.2,h1.1,h1.2.1,h1.2.2.1,h1.2.2.2.1,h1.2.2.2.2];rfl
theorem Uw{i:Ad}(h:CS i.op=true):FL i=ED i (A4 i.op):=by
 unfold CS Bq at h;simp only[Bool.or_eq_true,Bool.and_eq_true,decide_eq_true_eq]at h;obtain⟨op,D,A,B,E,n,bb⟩:=i;simp only at h |-;have:op=3\/op=4\/op=5\/op=6\/op=7\/op=8\/op=9\/op=10\/op=11\/op=12\/op=13\/op=14\/op=15\/op=29\/op=30\/op=31\/op=32\/op=33:=oM;rcases this with rfl|rfl|rfl|rfl|rfl|rfl|rfl|rfl|rfl|rfl|rfl|rfl|rfl|rfl|rfl|rfl|rfl|rfl<;>rfl
theorem IM(rs:List Ty):GF rs (-1)= -1:=by unfold GF Av;simp
theorem vecR_eq{rs:List Ty}{n q:Int}(hq:0<=q):(GF rs n=q)↔Aa rs n=⟨3,q⟩:=by
 unfold GF;cases h:Av n rs.length
 .have:Aa rs n=⟨0,0⟩:=by unfold Aa;rw[h];rfl
  rw[this];simp;omega
 .rw[Bool.true_and];generalize Aa rs n=t;obtain⟨K,P⟩:=t;simp only[Ty.mk.injEq];by_cases hk:K=3
  .subst hk;simp
  .have:(K==3)=false:=by simpa using hk
   rw[this];constructor
   .intro e;simp at e;omega
   .intro e;exact absurd e.1 hk
theorem Uj{c:Cd}{s:Wk}{i:Ad}(hO:E6 s):Az c s i (A4 i.op)=(!O1 c s i&&OQ s i.op):=by
 have hO':=hO.inner;unfold Az O1 OQ;by_cases h1:i.op=34\/i.op=36
 .rw[if_pos h1,if_pos h1];have hv:GF c.regs (FL i)= -1:=by
   rw[IL (by rcases h1 with e|e<;>rw[e]<;>decide),IM]
  have h37:(i.op != 37)=true:=by rcases h1 with e|e<;>rw[e]<;>decide
  rw[hv,h37];cases hl:AD s
  .rfl
  .have:=hO' hl;have e:((-1:Int) != Co s)=true:=sO;rw[e];rfl
 .rw[if_neg h1,if_neg h1];by_cases h2:i.op=35
  .rw[if_pos h2,if_pos h2];have hv:GF c.regs (FL i)= -1:=by rw[IL (by rw[h2];decide),IM]
   rw[hv,h2];have hE:(!s.opens.isEmpty)=decide (0<s.opens.length):=by cases s.opens<;>simp
   rw[hE];cases hl:AD s
   .simp
   .have:=hO' hl;have e:((-1:Int) != Co s)=true:=sO;rw[e];simp
  .rw[if_neg h2,if_neg h2];by_cases h3:i.op=37
   .rw[if_pos h3,if_pos h3,h3];cases AD s<;>rfl
   .rw[if_neg h3,if_neg h3];have h37:(i.op != 37)=true:=by simpa using h3
    rw[h37,Bool.true_and,Bool.and_true];cases hl:AD s
    .rfl
    .have hq:=hO' hl;rw[Bool.not_true,Bool.false_or,Bool.true_and];cases hlp:CS i.op
     .rw[IL hlp,IM];have e:((-1:Int) != Co s)=true:=sO;rw[e];rfl
     .rw[Uw hlp,Bool.true_and];unfold AC;rw[Bool.eq_iff_iff,decide_eq_true_eq,<-vecR_eq hq];simp
theorem Uq{c:Cd}{s:Wk}{i:Ad}(hT:Ax c=true)(hO:E6 s):AG c s i=((Al i.op&&Ew c i (DR i.op))&&(!O1 c s i&&(EQ s i (A4 i.op)&&OQ s i.op))):=by
 unfold AG;rw[NJ hT,Uj hO];cases Al i.op<;>cases AS c i (A4 i.op)<;>cases O1 c s i<;>cases OQ s i.op<;>simp
structure Ob where
 op:Int
 par:Int
 set:List Nat
def obR(S:List Nat)(b:Bk):Ob:=⟨if b.loop then 36 else 34,b.par,S.take b.ahead⟩
def Lh(s:Wk):List Ob:=(s.opens.map (obR s.set)).reverse
theorem Jo(s:Wk):(Lh s).length=s.opens.length:=by simp[Lh]
theorem Hk(S:List Nat)(b:Bk)(r:List Bk):Lh ⟨S,b::r⟩=(r.map (obR S)).reverse++[obR S b]:=by simp[Lh]
theorem VT{s:Wk}(h:0<s.opens.length):∃X,(Lh s)[s.opens.length-1]? =some ⟨if AD s then 36 else 34,Co s,X⟩:=by
 obtain⟨S,O⟩:=s;cases O with
 |nil=>simp at h
 |cons b r=>
  refine⟨S.take b.ahead,?_⟩;rw[Hk];simp only[List.length_cons,Nat.add_sub_cancel];rw[List.getElem?_append_right sM];simp only[List.length_reverse,List.length_map,Nat.sub_self];rfl
theorem Nf{s:Wk}{i:Ad}(h:i.op=34\/i.op=36):Aj s i=⟨s.set,⟨i.op==36,i.n,s.set.length⟩::s.opens⟩:=by
 unfold Aj Dd;rw[Ll Zhk];unfold Bv;rw[if_pos h]
theorem Ng{s:Wk}{i:Ad}(h:i.op=35\/i.op=37):Aj s i=AQ s:=by
 unfold Aj Dd;rw[Ll Zhk];unfold Bv;rw[if_neg oM,if_pos h]
theorem Gw{s:Wk}{i:Ad}(h1:i.op≠34)(h2:i.op≠35)(h3:i.op≠36)(h4:i.op≠37):Aj s i=⟨Jd s.set i,s.opens⟩:=by
 unfold Aj Dd Bv;rw[if_neg oM,if_neg oM];unfold Cf Jd;split<;>rfl
theorem VU{s:Wk}{i:Ad}(h:i.op=34\/i.op=36):Lh (Aj s i)=Lh s++[⟨i.op,i.n,s.set⟩]:=by
 rw[Nf h,Hk];unfold Lh obR;simp only[List.take_length];rcases h with h|h<;>rw[h]<;>rfl
theorem VV{s:Wk}{i:Ad}{n:Nat}(ho:E5 n s)(h1:i.op≠34)(h2:i.op≠35)(h3:i.op≠36)(h4:i.op≠37):Lh (Aj s i)=Lh s:=by
 rw[Gw h1 h2 h3 h4];unfold Lh;simp only;congr 1;apply List.map_congr_left;intro b hb;have:=Q8 ho.opens b hb;have e:(Jd s.set i).take b.ahead=s.set.take b.ahead:=by
  unfold Jd;split
  .rw[List.take_append_of_le_length this]
  .rfl
 unfold obR;rw[e]
theorem Gp{s:Wk}{n:Nat}(ho:E5 n s)(h:0<s.opens.length):Lh (AQ s)=(Lh s).take (s.opens.length-1):=by
 obtain⟨S,O⟩:=s;cases O with
 |nil=>simp at h
 |cons b r=>
  rw[Hk];simp only[List.length_cons,Nat.add_sub_cancel];rw[List.take_append_of_le_length sM,List.take_of_length_le sM];unfold Lh AQ;simp only;cases hb:b.loop
  .simp only[Bool.false_eq_true,if_false];congr 1;apply List.map_congr_left;intro a ha;have:=Q8 ho.opens.2 a ha;unfold obR;rw[List.take_take,Nat.min_eq_left this]
  .simp only[if_true]
theorem Tm{s:Wk}(hl:AD s=false){o:Ob}(h:(Lh s)[s.opens.length-1]? =some o)(h0:0<s.opens.length):(AQ s).set=o.set:=by
 obtain⟨S,O⟩:=s;cases O with
 |nil=>simp at h0
 |cons b r=>
  rw[Hk]at h;simp only[List.length_cons,Nat.add_sub_cancel]at h;rw[List.getElem?_append_right sM]at h;simp at h;subst h;have:b.loop=false:=hl;simp[AQ,this,obR]
theorem PQ{s:Wk}(hl:AD s=true):(AQ s).set=s.set:=by
 obtain⟨S,O⟩:=s;cases O with
 |nil=>rfl
 |cons b r=>
  have:b.loop=true:=hl;simp[AQ,this]
theorem EC(s:Wk):(AQ s).opens.length=s.opens.length-1:=by
 obtain⟨S,O⟩:=s;cases O with
 |nil=>rfl
 |cons b r=>simp[AQ]
theorem E6.step{c:Cd}{s:Wk}{i:Ad}(h:E6 s)(t:AG c s i=true):E6 (Aj s i):=by
 by_cases h1:i.op=34\/i.op=36
 .rw[Nf h1];intro b hb hl;rcases List.mem_cons.1 hb with rfl|hb
  .have h36:i.op=36:=by simpa using hl
   obtain⟨_,h2,_,_⟩:=Ao t;rw[h36]at h2;unfold AS Bh at h2;simp only[Bool.and_eq_true]at h2;have h3:=h2.2.2.2.2;rw[if_neg (show(A4 36).n≠7 by decide)]at h3;simp only[Bool.and_eq_true]at h3;have h4:Av i.n c.sign.length=true:=h3.2;exact(BU.1 h4).1
  .exact h b hb hl
 .by_cases h2:i.op=35\/i.op=37
  .rw[Ng h2];intro b hb hl;refine h b ?_ hl;unfold AQ at hb;split at hb
   .rename_i e;rw[e];exact List.mem_cons_of_mem _ hb
   .exact hb
  .rw[Gw oM oM oM oM];exact h
theorem E6.start:E6 ⟨[],[]⟩:=fun b hb=>by cases hb
end Go.Proofs.YtnbccaicijcklaaGreat
