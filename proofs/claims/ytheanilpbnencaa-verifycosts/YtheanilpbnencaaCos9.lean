import Derived.Test.YtheanilpbnencaaCos8
import Derived.Test.YtheanilpbnencaaCos6
import Derived.Test.YtheanilpbnencaaCos2
import Derived.Test.YtheanilpbnencaaRows
import Derived.WalkKit
import Derived.ProofKit
import Derived.OpenShut
import Derived.JoinedCond
import Derived.Deep.Slices
import Derived.Deep.Strs
import Derived.SizedLaws
import Derived.Test.YtheanilpbnencaaCos1
namespace Go.Proofs.Ytheanilpbnencaa
open Go.RowKit Go.Proofs.Try
set_option linter.all false
set_option maxRecDepth 100000
set_option maxHeartbeats 16000000
theorem Co:(prog.info? 4).map (fun i=>(i.zero,i.size,i.bytes))=some (some (.bool false),1,1):=kR
theorem K8(m:Nat)(h:m<=70368744177664)(w:World):(Instr.makeSlice 67 (.int .i64 m) (.int .i64 m)).run prog w=.ok (.slice (some ⟨w.heap.size,0,none⟩) m m) (w.alloc (.cells (madeCells #[.bool false] m) 4)):=
 run_make_row' (P:=prog) 67 4 (.bool false) 1 underlying67 Co rfl .i64 .i64 m oM oM w
theorem WS.start(w:World)(C n:Nat):WS w.heap.size (w.heap.size+1) C n w.heap.size (.slice none 0 0) (.slice none 0 0) ((w.alloc (.cells (madeCells #[.bool false] n) 4)).alloc (.cells #[.pointer (some ⟨C,0,none⟩),.slice (some ⟨w.heap.size,0,none⟩) n n,.slice none 0 0,.slice none 0 0] 71)) ⟨[],[]⟩:=by
 have h1:=(World.rowIs_made w (.bool false) n 4).alloc (.cells #[.pointer (some ⟨C,0,none⟩),.slice (some ⟨w.heap.size,0,none⟩) n n,.slice none 0 0,.slice none 0 0] 71);have h2:=World.rowIs_alloc (w.alloc (.cells (madeCells #[.bool false] n) 4)) #[.pointer (some ⟨C,0,none⟩),.slice (some ⟨w.heap.size,0,none⟩) n n,.slice none 0 0,.slice none 0 0] 71 (KK C w.heap.size n (.slice none 0 0) (.slice none 0 0)) (fun i hi=>by
  have hi':i<4:=hi;obtain rfl|rfl|rfl|rfl:i=0\/i=1\/i=2\/i=3:=oM
  all_goals rfl)
 have hs:(w.alloc (.cells (madeCells #[.bool false] n) 4)).heap.size=w.heap.size+1:=sM;rw[hs]at h2;exact⟨h2,h1.congr fun j _=>by simp,World.ownsRow_nil _ _ _ 1,World.ownsRow_nil _ _ _ 3,oM,gF _,oM,by simp[Value.ownBlock],by simp[Value.ownBlock],by simp[Value.ownBlock],by simp[Value.ownBlock],by simp[Value.ownBlock]⟩
theorem Cn(v0 v1 v2 v3:Value)(c:Cd)(hk:AJ c)(w:World)(hv:Bt w v0 v1 v2 v3 c):
 Calls prog 19 #[.agg #[v0,v1,v2,v3]] w fun e w'=>e=.returned (.tuple #[.int .i64 (Ai c).1,.int .i64 (Ai c).2])/\Below w.heap.size w w':=by
 have hat:AM (w.alloc (.cells #[v0,v1,v2,v3] 27)) w.heap.size v0 v1 v2 v3 c:=by
  refine⟨fun j hj=>?_,hv.below (A0 _ _)⟩;have hj':j<4:=hj;obtain rfl|rfl|rfl|rfl:j=0\/j=1\/j=2\/j=3:=oM
  all_goals simp[go_sem]
 have K1:=DA w.heap.size v0 v1 v2 v3 c hk _ hat;unfold Ai;obtain⟨A,hA⟩:=gA (B3 c)
 rw[hA]at K1 |-;have HK1:Hid (Calls prog 28 #[.pointer (some ⟨w.heap.size,0,none⟩)] (w.alloc (.cells #[v0,v1,v2,v3] 27)) fun e w'=>e=.returned (.int .i64 A)/\Below (w.alloc (.cells #[v0,v1,v2,v3] 27)).heap.size (w.alloc (.cells #[v0,v1,v2,v3] 27)) w'):=K1;clear K1;by_cases h0:A=0
 .rw[if_neg (by simp[h0])];have hsz:c.regs.length<=16384/\c.list.length<=32768/\Af c=true:=by
   rw[h0]at hA;unfold B3 at hA;split at hA
   .rename_i e1;exact absurd hA e1
   .split at hA
    .exact absurd hA dE
    .split at hA
     .exact absurd hA dE
     .split at hA
      .rename_i e1 e2 e3 e4;simp only[Bool.and_eq_true]at e4;exact⟨oM,oM,e4.1⟩
      .exact absurd hA dE
  obtain⟨hn,hN,htm⟩:=hsz;clear hA;subst h0;have KT:=fun E G gi vs vo s b o i w h ok hc hi hb hb0 hb1=>EZ E G w.heap.size c.regs.length gi vs vo s v0 v1 v2 v3 c hk b o i w h rfl ok hn hc hi hb htm hb0 hb1;clear KT;have hr:=hv.list;obtain⟨p3,q3,rfl,hr3⟩:=hv.list;obtain⟨p1,q1,rfl,hr1⟩:=hv.regs;have HAT:Hid (AM (w.alloc (.cells #[v0,.slice p1 c.regs.length q1,v2,.slice p3 c.list.length q3] 27)) w.heap.size v0 (.slice p1 c.regs.length q1) v2 (.slice p3 c.list.length q3) c):=hat;obtain⟨Pr,hPr⟩:∃P,DS c ⟨[],[]⟩ 0 c.list=P:=⟨_,rfl⟩
  rw[hPr];have HP:Hid (DS c ⟨[],[]⟩ 0 c.list=Pr):=hPr;have HROW:Hid (AS 7 C9 w (.slice p3 c.list.length q3) c.list):=hr;have HIB:Hid (∀i∈c.list,0<=i.bits/\i.bits<4294967296):=hk.ibits;obtain⟨n,hnn⟩:=gA (c.regs.length)
  obtain⟨N,hNN⟩:=gA (c.list.length)
  have HNE:Hid (c.regs.length=n):=hnn;have HNL:Hid (c.list.length=N):=hNN;rw[hnn]at hn HK1 HAT;rw[hNN]at hN HK1 HAT HROW;rw[hnn,hNN];have mk:=fun w=>K8 n oM w;have HOKC:Hid (AJ c):=hk;have HTM:Hid (Af c=true):=htm;have f1:=HAT.1.at 1 rfl;have f3:=HAT.1.at 3 rfl;rw[Nat.zero_add]at f1 f3;have HC:Hid (∀v,Below (w.alloc (.cells #[v0,.slice p1 n q1,v2,.slice p3 N q3] 27)).heap.size (w.alloc (.cells #[v0,.slice p1 n q1,v2,.slice p3 N q3] 27)) v->v.cell? ⟨w.heap.size,1,none⟩=some (.slice p1 n q1)/\v.cell? ⟨w.heap.size,3,none⟩=some (.slice p3 N q3)):=fun v hv=>⟨kc hv f1,kc hv f3⟩
  clear hat hv hr hr3 hr1 hPr hnn hNN hk htm f1 f3;go_enter func19,ntmps19;go_wp2_with(go_at_call 28;refine HK1.mono ?_;rintro e w1 ⟨rfl,hb1⟩;obtain⟨g1,g3⟩:=HC.out w1 hb1;have g4:((w1.alloc (.cells (madeCells #[.bool false] n) 4)).alloc (.cells #[.pointer (some ⟨w.heap.size,0,none⟩),.slice (some ⟨w1.heap.size,0,none⟩) n n,.slice none 0 0,.slice none 0 0] 71)).cell? ⟨w.heap.size,3,none⟩=some (.slice p3 N q3):=kc (A0 _ _) (kc (A0 _ _) g3));have HB1:Hid (Below w.heap.size w w1):=bel (A0 _ _) hb1;have HAT1:Hid (AM w1 w.heap.size v0 (.slice p1 n q1) v2 (.slice p3 N q3) c):=HAT.below hb1;have hs1:w.heap.size<w1.heap.size:=by have:=hb1.size;simp at this;omega
  have HS0:=WS.start w1 w.heap.size n;have HB0:Below w1.heap.size w1 ((w1.alloc (.cells (madeCells #[.bool false] n) 4)).alloc (.cells #[.pointer (some ⟨w.heap.size,0,none⟩),.slice (some ⟨w1.heap.size,0,none⟩) n n,.slice none 0 0,.slice none 0 0] 71)):=bel (A0 _ _) (A0 _ _);obtain⟨W2,hW2⟩:=gA ((w1.alloc (.cells (madeCells #[.bool false] n) 4)).alloc (.cells #[.pointer (some ⟨w.heap.size,0,none⟩),.slice (some ⟨w1.heap.size,0,none⟩) n n,.slice none 0 0,.slice none 0 0] 71))
  rw[hW2]at HS0 HB0;try rw[hW2]
  clear HK1 HC hb1 mk HAT g4 hW2
  go_loopw [19] (fun iv wr=>∃ (j:Nat) (s:Wk) (vs vo:Value),j<=N/\iv=.int .i64 j/\Below w1.heap.size w1 wr/\WS w1.heap.size (w1.heap.size+1) w.heap.size n w1.heap.size vs vo wr s/\BG n s/\Hid (DS c s j (c.list.drop j)=Pr)) (fun iv _=>N-(intOf iv).toNat)
  case atStart=>exact⟨0,⟨[],[]⟩,_,_,gI _,rfl,HB0,HS0,BG.start n,by show _=_;rw[List.drop_zero];exact HP.out⟩
  case round=>
   obtain⟨j,s,vs,vo,hj,rfl,hb,hws,hok,hgo⟩:=hrel;have HWS:Hid (WS w1.heap.size (w1.heap.size+1) w.heap.size n w1.heap.size vs vo wr s):=hws;have HOK:Hid (BG n s):=hok;have HBW:Hid (Below w1.heap.size w1 wr):=hb;have d3:=kc hb g3;have l3:=hws.c3;have hol:∃p q,vo=.slice p s.opens.length q:=As hws.opn;have hnest:=hok.nest;clear HS0 HB0;by_cases hlt:j<N
   .have hll:j<c.list.length:=by rw[HNL.out];exact hlt
    have hgo':=hgo.out;rw[List.drop_eq_getElem_cons hll]at hgo';have hgi:DS c s j (c.list[j]::c.list.drop (j+1))=if AI c s c.list[j]then DS c (Ap s c.list[j]) (j+1) (c.list.drop (j+1))else(160,(j:Int)):=rfl;rw[hgi]at hgo';obtain⟨b,o,rfl,hx⟩:=HROW.at hll;have hbw:b<w.heap.size:=Ac (hx 0 (by simp[C9]));have hxw:=(hx.below HB1.out).below hb;have KT:=EZ w1.heap.size (w1.heap.size+1) w.heap.size n w1.heap.size vs vo s v0 (.slice p1 n q1) v2 (.slice (some ⟨b,o,none⟩) N q3) c HOKC.out b (o+j*7) c.list[j] wr hws HNE.out hok hn (HAT1.below hb) hxw oM HTM.out (HIB.out _ (gD hll)).1 (HIB.out _ (gD hll)).2;have hokS:AI c s c.list[j]=true->BG n (Ap s c.list[j]):=fun ht=>by
     have hq:BG c.regs.length s:=by rw[HNE.out];exact hok
     have:=BG.step hq ht;rw[HNE.out]at this;exact this
    obtain⟨X,hX⟩:=gA (AI c s c.list[j])
    rw[hX]at hgo' hokS;simp only[hX]at KT;have HKT:Hid (Calls prog 29 #[.pointer (some ⟨w1.heap.size+1,0,none⟩),.pointer (some ⟨b,o+j*7,none⟩)] wr fun e w'=>e=.returned (.bool X)/\Below w1.heap.size wr w'/\(X=true->∃vs' vo',WS w1.heap.size (w1.heap.size+1) w.heap.size n w1.heap.size vs' vo' w' (Ap s c.list[j]))):=KT;have HGO:Hid ((if X=true then DS c (Ap s c.list[j]) (j+1) (c.list.drop (j+1))else(160,(j:Int)))=Pr):=hgo';have HOS:Hid (X=true->BG n (Ap s c.list[j])):=hokS;have i1:(0:Int)<=(j:Int):=oM;have i2:(j:Int)<(N:Int):=oM;clear KT hgo hgo' hgi hokS hX hx hxw hws hok hb hol l3;cases X
    .go_wp2_with(go_at_call 29;refine HKT.mono ?_;rintro e w5 ⟨rfl,hb5,hw5⟩;have HB5:Hid (Below w1.heap.size wr w5):=hb5;clear hb5 hw5)
     go_ret2
     refine⟨?_,bel HB1.out (HBW.trans HB5.out)⟩;have:=HGO.out;rw[if_neg dE]at this;rw[<-this];rfl
    .go_wp2_with(go_at_call 29;refine HKT.mono ?_;rintro e w5 ⟨rfl,hb5,hw5⟩;have HB5:Hid (Below w1.heap.size wr w5):=hb5;have HW5:Hid (∃vs' vo',WS w1.heap.size (w1.heap.size+1) w.heap.size n w1.heap.size vs' vo' w5 (Ap s c.list[j])):=hw5 fT;clear hb5 hw5);go_roundw
     case rel=>
      obtain⟨vs',vo',hw5⟩:=HW5.out;exact⟨j+1,_,vs',vo',oM,gN,HBW.trans HB5.out,hw5,HOS.out fT,by show _=_;have:=HGO.out;rw[if_pos fT]at this;exact this⟩
     case measure=>simp[intOf];omega
   .have:j=N:=oM;subst this;have hgo':=hgo.out;rw[List.drop_of_length_le (by rw[HNL.out];exact gF _)]at hgo';have hgi:DS c s j []=if s.opens.isEmpty then(0,0)else(160,(j:Int)):=rfl;rw[hgi]at hgo';obtain⟨p,q,rfl⟩:=hol;obtain⟨M,hM⟩:=gA (s.opens.length)
    rw[hM]at l3 hnest;have hE:s.opens.isEmpty=decide (M=0):=by
     rw[<-hM];cases s.opens with
     |nil=>rfl
     |cons a l=>simp
    rw[hE]at hgo';have HGO:Hid ((if decide (M=0)=true then((0:Int),(0:Int))else(160,(j:Int)))=Pr):=hgo';clear hgo hgo' hgi hE hM hws hok hb;by_cases hz:M=0
    .subst hz;go_wp2
     go_ret2
     refine⟨?_,bel HB1.out HBW.out⟩;rw[<-HGO.out];rfl
    .have hz':(0:Int)<(M:Int):=oM;have hz2:0<M:=oM;have HZ:Hid (¬M=0):=hz;clear hz;go_wp2;refine rG (fun v=>v.cell? ⟨w.heap.size,3,none⟩=some (.slice p3 j q3)) fun hJ=>?_;refine wpAnyH_take (i:=0) (v:=?_) A5 kR kR kR A6 (Or.inl ⟨rF,?_⟩) A7 ?_
     rotate_left 1
     ·(intro wS hSw;(try dsimp only at hSw);go_simp;try(with_reducible rfl))
     try simp only[Act.put,List.setIfInBounds_toArray,List.set_cons_zero,List.set_cons_succ]
     refine wpAnyH_take (i:=1) (v:=?_) A5 kR kR kR A6 (Or.inl ⟨rF,?_⟩) A7 ?_
     rotate_left 1
     ·(intro wS hSw;(try dsimp only at hSw);go_simp;try(with_reducible rfl))
     try simp only[Act.put,List.setIfInBounds_toArray,List.set_cons_zero,List.set_cons_succ]
     refine wpAnyH_take (i:=2) (v:=?_) A5 kR kR kR A6 (Or.inl ⟨rF,?_⟩) A7 ?_
     rotate_left 1
     ·(intro wS hSw;(try dsimp only at hSw);go_simp;try(with_reducible rfl))
     try simp only[Act.put,List.setIfInBounds_toArray,List.set_cons_zero,List.set_cons_succ]
     refine wpAnyH_take (i:=3) (v:=?_) A5 kR kR kR A6 (Or.inl ⟨rF,?_⟩) A7 ?_
     rotate_left 1
     ·(intro wS hSw;(try dsimp only at hSw);go_simp;try(with_reducible rfl))
     try simp only[Act.put,List.setIfInBounds_toArray,List.set_cons_zero,List.set_cons_succ]
     refine wpAnyH_take (i:=4) (v:=?_) A5 kR kR kR A6 (Or.inl ⟨rF,?_⟩) A7 ?_
     rotate_left 1
     ·(intro wS hSw;(try dsimp only at hSw);go_simp;try(with_reducible rfl))
     try simp only[Act.put,List.setIfInBounds_toArray,List.set_cons_zero,List.set_cons_succ]
     refine wpAnyH_done kR ?_ _;go_wp2
     go_ret2
     refine⟨?_,(bel HB1.out HBW.out).drew⟩;have:=HGO.out;rw[if_neg (by simpa using HZ.out)]at this;rw[<-this];rfl
 .rw[if_pos h0];have h0':(A==0)=false:=by simpa using h0
  go_enter func19,ntmps19;go_wp2_with(go_at_call 28;refine HK1.mono ?_;rintro e w1 ⟨rfl,hb1⟩)
  all_goals(go_ret2;exact⟨rfl,bel (A0 _ _) hb1⟩)
def Bl(i:Ay):Value:=.agg #[.int .i64 i.op,.int .i64 i.d,.int .i64 i.a,.int .i64 i.b,.int .i64 i.c,.int .i64 i.n,.int .u32 i.bits]
def Bd{α:Type}(f:α->List Value)(l:List α):List Value:=l.flatMap f
theorem DB{α:Type}{f:α->List Value}{k:Nat}(hf:∀x,(f x).length=k):∀l:List α,(Bd f l).length=l.length*k
 |[]=>by simp[Bd]
 |a::l=>by
  have e:Bd f (a::l)=f a++Bd f l:=by simp[Bd]
  rw[e,List.length_append,DB hf l,hf,List.length_cons,Nat.add_mul,Nat.one_mul,Nat.add_comm]
theorem Dr{α:Type}{f:α->List Value}{k:Nat}(hf:∀x,(f x).length=k):∀ (l:List α) (i j:Nat) (hi:i<l.length),j<k->(Bd f l)[i*k+j]? =(f l[i])[j]?
 |[],i,j,hi,hj=>absurd hi (Nat.not_lt_zero _)
 |a::l,0,j,hi,hj=>by
  have e:Bd f (a::l)=f a++Bd f l:=by simp[Bd]
  rw[e,Nat.zero_mul,Nat.zero_add,List.getElem?_append_left (by rw[hf];exact hj)];rfl
 |a::l,i+1,j,hi,hj=>by
  have e:Bd f (a::l)=f a++Bd f l:=by simp[Bd]
  have e2:(i+1)*k+j-(f a).length=i*k+j:=by rw[hf,Nat.add_mul,Nat.one_mul];omega
  rw[e,List.getElem?_append_right (by rw[hf,Nat.add_mul,Nat.one_mul];omega),e2];exact Dr hf l i j (by simpa using hi) hj
theorem Dt{α:Type}{f:α->List Value}{k:Nat}(hf:∀x,(f x).length=k){w:World}{B:Nat}{t:TypeId}{v:Value}{l:List α}(h:w.ownsRow B t k v l.length (Bd f l)):AS k f w v l:=by
 by_cases h0:l=[]
 .subst h0;obtain⟨p,c,hv⟩:=As h;exact⟨p,c,hv,.inl rfl⟩
 .obtain⟨g,cap,hv,_,_,_,_,hcl⟩:=Cj h (List.length_pos_iff.2 h0);refine⟨_,cap,hv,.inr ⟨g,0,rfl,fun i hi j hj=>?_⟩⟩;rw[Nat.zero_add];exact hcl _ _ (by rw[Dr hf l i j hi (by rw[<-hf l[i]];exact hj)];exact gB hj)
theorem Ev(b o j:Nat):(⟨b,o,none⟩:Addr).add j=⟨b,o+j,none⟩:=by unfold Addr.add;split<;>simp_all
theorem H3{α:Type}{f:α->List Value}{k:Nat}(hk:0<k)(hf:∀x,(f x).length=k){w:World}{b o:Nat}{l:List α}(h:∀i (hi:i<l.length),Al w b (o+i*k) (f l[i]))(j:Nat)(u:Value)(hu:(Bd f l)[j]? =some u):w.cell? ((⟨b,o,none⟩:Addr).add j)=some u:=by
 have hj:j<l.length*k:=by have:=(List.getElem?_eq_some_iff.1 hu).1;rwa[DB hf]at this
 have hi:j/k<l.length:=Nat.div_lt_of_lt_mul (by rw[Nat.mul_comm];exact hj);have hm:j%k<k:=Nat.mod_lt _ hk;have e:j=j/k*k+j%k:=by rw[Nat.mul_comm];exact(Nat.div_add_mod j k).symm
 rw[e,Dr hf l _ _ hi hm]at hu;rw[Ev];have:=(h _ hi).at _ hu;rw[Nat.add_assoc,<-e]at this;exact this
theorem CH{α:Type}{f:α->List Value}{k bytes:Nat}{t e:TypeId}{z:Value}{i:TypeInfo}(hk:0<k)(hf:∀x,(f x).length=k)(h1:∀x,∀u∈f x,u.oneCell'=true)(ht:prog.underlying t=some (.slice e))(hi:prog.info? e=some i)(hz:i.zero=some z)(hsize:i.size=k)(hby:i.bytes=bytes)(hzs:z.cells.size=k)
 {l:List α} {v:Value} {w:World} (h:AS k f w v l) (hl:l.length<=maxLen) (hb:l.length*bytes<=140737488355328) (ty:TypeId):
 ∃v' w',(Builtin.append_ #[t,t] ty #[.slice none 0 0,v]).run prog w=.ok v' w'/\Below w.heap.size w w'/\w'.ownsRow w.heap.size e k v' l.length (Bd f l):=by
 obtain⟨p,c,rfl,h⟩:=h;by_cases h0:l=[]
 .subst h0;refine⟨.slice none 0 0,w,?_,Below.refl _ _,⟨by simp[Bd],.inl ⟨rfl,rfl⟩⟩⟩;cases p with
  |none=>simp[Builtin.append_,run_underlying ht,sizeOf,typeInfo,hi,Builtin.lenOf,Builtin.firstCells,storeCells]
  |some a=>simp[Builtin.append_,run_underlying ht,sizeOf,typeInfo,hi,Builtin.lenOf,Builtin.firstCells,storeCells,loadCells,loadCellsFrom]
 .obtain⟨b,o,rfl,h2⟩:=h.resolve_left h0;have hpos:0<l.length:=List.length_pos_iff.2 h0;obtain⟨g,cap,w',hr,hown,hg,hat,hlt⟩:=run_append_lies (P:=prog) w t ty w.heap.size e i z k bytes ht hi hz hsize hby hzs hk (.slice none 0 0) 0 [] (World.ownsRow_nil w _ _ k) ⟨b,o,none⟩ l.length c (Bd f l) (DB hf l) (H3 hk hf h2) (by intro u hu;obtain⟨x,_,hx⟩:=List.mem_flatMap.1 hu;exact h1 x u hx) hpos oM (by rw[Nat.zero_add];exact hb) (gF _) w.heap.size rfl;rw[Nat.zero_add]at hr hown;exact⟨_,w',hr,⟨hg.os,hg.tape,hg.output,hg.size,fun j hj=>hg.block j hj (by show some j≠none;simp)⟩,by rw[List.nil_append]at hown;exact hown⟩
theorem Bf{P:Program}{w w':World}{ops:Array Oper}{rest:List Oper}{o:Oper}{a:Act}{Q:Exit->Act->World->Prop}(hgd:o.guard=none)(s x:Operand)(t:TypeId)
 (ho:o.op=.call {callee:=.builtin .append,args:=#[s,x],argTypes:=#[t,t]}) (v v2 v':Value) (hs:a.eval s=v) (hx:a.eval x=v2) (hr:(Builtin.append_ #[t,t] o.type #[v,v2]).run P w=.ok v' w')
 (h:wpList P ops Q rest (a.put o.dst v') w'):wpList P ops Q (o::rest) a w:=
 wpList_plain hgd fun _ hK=>by
  unfold Oper.wp execOp;simp only[ho,resolve,invoke,builtin,Sem.run_bind,Sem.run_pure,Result.andThen_ok,List.map_toArray,List.map_cons,List.map_nil,hs,hx,hr];exact hK _ _ h
theorem J4:∀x:Ay,∀u∈C9 x,u.oneCell'=true:=fun x u hu=>by simp[C9]at hu;rcases hu with rfl|rfl|rfl|rfl|rfl|rfl|rfl<;>rfl
theorem GJ:(prog.info? 53).map (fun i=>(i.zero,i.size,i.bytes))=some (some (.agg #[.int .i64 0,.int .i64 0,.int .i64 0,.int .i64 0,.int .i64 0,.int .i64 0,.int .u32 0]),7,56):=kR
theorem J0{l:List Ay}{v:Value}{w:World}(h:AS 7 C9 w v l)(hl:l.length*56<=140737488355328)(ty:TypeId):
 ∃v' w',(Builtin.append_ #[25,25] ty #[.slice none 0 0,v]).run prog w=.ok v' w'/\Below w.heap.size w w'/\w'.ownsRow w.heap.size 53 7 v' l.length (Bd C9 l):=by
 obtain⟨i0,hi0,hz0,hz1,hz2⟩:=info_parts GJ;exact CH dE CI J4 underlying25 hi0 hz0 hz1 hz2 rfl h mL hl ty


def IK(i:Ay):Bool:=(Ad i.op).d != 0
theorem E7(op:Int)(w:World):Calls prog 38 #[.int .i64 op] w fun e w'=>e=.returned (.bool (Aw op))/\w'=w:=by
 unfold Aw;by_cases h:3<=op
 all_goals
  go_enter func38,ntmps38;exact Li
theorem JF(a:UInt8)(X:Bool)(h:(a==45)=X):((a.toNat:Int) != 45)= !X:=by
 rw[<-h];have:((a.toNat:Int)==45)=(a==45):=by
  rw[Bool.eq_iff_iff];simp only[beq_iff_eq];constructor
  .intro e;apply UInt8.toNat_inj.1;show a.toNat=45;omega
  .intro e;subst e;rfl
 simp[bne,this]
theorem H4(i:Ay)(w:World):Calls prog 37 #[Bl i] w fun e w'=>e=.returned (.bool (IK i))/\Below w.heap.size w w':=by
 unfold IK;rcases EO i.op (w.alloc (.cells #[.int .i64 i.op,.int .i64 i.d,.int .i64 i.a,.int .i64 i.b,.int .i64 i.c,.int .i64 i.n,.int .u32 i.bits] 53))with⟨hk,hc⟩|⟨hk,a,b,c,d,e,ht,hc⟩
 .rw[CS i.op hk];obtain⟨op,D,A,B,E,n,bt⟩:=i;unfold Bl;simp only at hc hk |-;have HK:Hid (Calls prog 54 #[.int .i64 op] (w.alloc (.cells #[.int .i64 op,.int .i64 D,.int .i64 A,.int .i64 B,.int .i64 E,.int .i64 n,.int .u32 bt] 53)) fun e w'=>e=.returned (.tuple #[.string ⟨#[]⟩,.bool false])/\w'=w.alloc (.cells #[.int .i64 op,.int .i64 D,.int .i64 A,.int .i64 B,.int .i64 E,.int .i64 n,.int .u32 bt] 53)):=hc;clear hc;go_enter func37,ntmps37;go_wp2_with(go_at_call 54;refine HK.mono ?_;rintro e w1 ⟨rfl,rfl⟩);go_ret;exact⟨rfl,A0 _ _⟩
 .have h1:=JF a _ ht.a;obtain⟨X,hX⟩:=gA ((Ad i.op).d)
  rw[hX]at h1 |-;obtain⟨op,D,A,B,E,n,bt⟩:=i;unfold Bl;simp only at hc |-;have HK:Hid (∀w,Calls prog 54 #[.int .i64 op] w fun x w'=>x=.returned (.tuple #[.string ⟨#[a,b,c,d,e]⟩,.bool true])/\w'=w):=hc;have ix:∀w,(Instr.index 9 (.string ⟨#[a,b,c,d,e]⟩) (.int .i64 0)).run prog w=.ok (.int .u8 (a.toNat:Int)) w:=fun w=>by simp[Instr.index,run_underlying underlying9,asIntOf,go_sem];rfl
  clear hc ht hX;go_enter func37,ntmps37;go_wp2_with(go_at_call 54;refine(HK.out _).mono ?_;rintro e w1 ⟨rfl,rfl⟩);go_ret;refine⟨A9 ?_,A0 _ _⟩;first|exact h1|(simp only[h1];rfl)|simp[h1,bne]
structure Kk(w:World)(C Q:Nat)(A B E:Int)(v:World):Prop where
 bel:Below w.heap.size w v
 hC:w.heap.size<=C
 hQ:Q<C
 le:C<=v.heap.size
 g0:v.cell? ⟨Q,0,none⟩=some (.int .i64 A)
 g1:v.cell? ⟨Q,1,none⟩=some (.int .i64 B)
 g2:v.cell? ⟨Q,2,none⟩=some (.int .i64 E)
theorem Kk.next{w:World}{C Q:Nat}{A B E:Int}{v v':World}(h:Kk w C Q A B E v)(k:Below C v v'):Kk w C Q A B E v':=by
 have c1:∀ {a:Addr} {u:Value},a.block<C->v.cell? a=some u->v'.cell? a=some u:=fun ha hu=>(k.cell ha).trans hu;exact⟨h.bel.trans (k.mono h.hC),h.hC,h.hQ,gH h.le k.size,c1 h.hQ h.g0,c1 h.hQ h.g1,c1 h.hQ h.g2⟩
theorem FF(i:Ay)(w:World):Calls prog 53 #[Bl i] w fun e w'=>∃v,e=.returned v/\w'.ownsRow w.heap.size 3 1 v (AG i (Ad i.op)).length (Be (AG i (Ad i.op)))/\Below w.heap.size w w':=by
 rcases EO i.op (w.alloc (.cells #[.int .i64 i.op,.int .i64 i.d,.int .i64 i.a,.int .i64 i.b,.int .i64 i.c,.int .i64 i.n,.int .u32 i.bits] 53))with⟨hk,hc⟩|⟨hk,a,b,c,d,e,ht,hc⟩
 .rw[CS i.op hk,show AG i ⟨0,0,0,0,0⟩=[] from rfl];obtain⟨op,D,A,B,E,n,bt⟩:=i;unfold Bl;simp only at hc hk |-;have HK:Hid (Calls prog 54 #[.int .i64 op] (w.alloc (.cells #[.int .i64 op,.int .i64 D,.int .i64 A,.int .i64 B,.int .i64 E,.int .i64 n,.int .u32 bt] 53)) fun e w'=>e=.returned (.tuple #[.string ⟨#[]⟩,.bool false])/\w'=w.alloc (.cells #[.int .i64 op,.int .i64 D,.int .i64 A,.int .i64 B,.int .i64 E,.int .i64 n,.int .u32 bt] 53)):=hc;clear hc;go_enter func53,ntmps53;go_wp2_with(go_at_call 54;refine HK.mono ?_;rintro e w1 ⟨rfl,rfl⟩)
  go_loopw [3,7] (fun lv iv wr=>lv=.slice none 0 0/\iv=.int .i64 0/\Below w.heap.size w wr) (fun _ iv _=>0)
  case atStart=>exact⟨rfl,rfl,bel (A0 _ _) (A0 _ _)⟩
  case round=>
   obtain⟨rfl,rfl,hb⟩:=hrel;go_wp2;go_ret;exact⟨_,rfl,World.ownsRow_nil _ _ _ 1,hb⟩
 .rw[CN];have h1:=JF b _ ht.b;have h2:=JF c _ ht.c;have h3:=JF d _ ht.d;obtain⟨i0,hi0,hz0,hz1,hz3⟩:=info_parts DC;obtain⟨r,hr⟩:=gA (Ad i.op)
  rw[hr]at h1 h2 h3 |-;obtain⟨L0,L1,L2,L3,L4⟩:=r;obtain⟨op,D,A,B,E,n,bt⟩:=i;unfold Bl;simp only at hc h1 h2 h3 |-;obtain⟨R,hR⟩:=gA ((BJ L1 A++BJ L2 B)++BJ L3 E)
  rw[hR];have HR:Hid ((BJ L1 A++BJ L2 B)++BJ L3 E=R):=hR;have HK:Hid (∀w,Calls prog 54 #[.int .i64 op] w fun x w'=>x=.returned (.tuple #[.string ⟨#[a,b,c,d,e]⟩,.bool true])/\w'=w):=hc;clear hc ht hr hR hk;go_enter func53,ntmps53;go_wp2_with(go_at_call 54;refine(HK.out _).mono ?_;rintro e w1 ⟨rfl,rfl⟩);have HF1:Hid (Kk w (w.heap.size+1+1) (w.heap.size+1) A B E ((w.alloc (.cells #[.int .i64 op,.int .i64 D,.int .i64 A,.int .i64 B,.int .i64 E,.int .i64 n,.int .u32 bt] 53)).alloc (.cells #[.int .i64 A,.int .i64 B,.int .i64 E] 3))):=
   ⟨bel (A0 _ _) (A0 _ _),oM,oM,sM,sG,sG,sG⟩
  obtain⟨W,hW⟩:=gA ((w.alloc (.cells #[.int .i64 op,.int .i64 D,.int .i64 A,.int .i64 B,.int .i64 E,.int .i64 n,.int .u32 bt] 53)).alloc (.cells #[.int .i64 A,.int .i64 B,.int .i64 E] 3))
  rw[hW]at HF1 |-;obtain⟨Q,hQ⟩:=gA (w.heap.size+1)
  rw[hQ]at HF1;try rw[hQ]
  clear hW
  go_loopw [3,7] (fun lv iv wr=>Kk w (Q+1) Q A B E wr/\∃ (j:Nat) (l:List Int),j<=3/\iv=.int .i64 j/\l.length<=j/\Hid (wr.ownsRow (Q+1) 3 1 lv l.length (Be l))/\Hid ((j=0->l=[])/\(j=1->l=BJ L1 A)/\(j=2->l=BJ L1 A++BJ L2 B)/\(j=3->l=(BJ L1 A++BJ L2 B)++BJ L3 E))) (fun _ iv _=>3-(intOf iv).toNat)
  case atStart=>exact⟨HF1.out,0,[],oM,rfl,sM,World.ownsRow_nil _ _ _ 1,⟨fun _=>rfl,fun h=>absurd h oM,fun h=>absurd h oM,fun h=>absurd h oM⟩⟩
  case round=>
   clear HF1 HK;obtain⟨hF,j,l,hj,rfl,hll,HO,HL⟩:=hrel;have HF:Hid (Kk w (Q+1) Q A B E wr):=hF;have hGw:=hF.le;have hn1:Q≠wr.heap.size:=oM;obtain rfl|rfl|rfl|rfl:j=0\/j=1\/j=2\/j=3:=oM
   .have g0:=hF.g0;have f0:=kc (A0 wr (.cells #[.int .i64 A] 3)) g0;have hl0:=HL.1 rfl;have ix:∀w,(Instr.index 9 (.string ⟨#[a,b,c,d,e]⟩) (.int .i64 1)).run prog w=.ok (.int .u8 (b.toNat:Int)) w:=fun w=>by simp[Instr.index,run_underlying underlying9,asIntOf,go_sem];rfl
    have hq:=h1;clear hF h1 h2 h3;by_cases hz:L1=0
    .have hz':(!(L1==0))=false:=by simp[hz]
     rw[hz']at hq;have hq2:((b.toNat:Int)==45)=true:=by simpa[bne]using hq
     have HZ:Hid (L1=0):=hz;clear hz;go_wp2;go_roundw
     case rel=>exact⟨HF.out,1,l,oM,by first|rfl|go_num,oM,HO,⟨fun h=>absurd h oM,fun _=>by rw[hl0];unfold BJ;simp[HZ.out],fun h=>absurd h oM,fun h=>absurd h oM⟩⟩
     case measure=>simp[intOf]
    .have hz':(!(L1==0))=true:=by simp[hz]
     rw[hz']at hq;have hq2:((b.toNat:Int)==45)=false:=by simpa[bne]using hq
     have HZ:Hid (¬L1=0):=hz;clear hz;go_wp2_with(first
      |(at_builtin;refine wpList_append_own_at _ rfl _ _ 68 rfl (Q+1) 3 i0 _ 1 8 underlying68 hi0 hz0 hz1 hz3 rfl dE _ l.length (Be l) rfl (World.ownsRow.alloc HO.out _) ⟨wr.heap.size,0,none⟩ 1 1 [.int .i64 A] rfl rfl (World.news_of_block (cs:=#[.int .i64 A]) (t:=3) (fr:=(0,0)) (heap_alloc_new wr _)) JJ mL oM sO ?_;intro v' w3 hown3 hgrow hnil hat;have HO3:Hid (w3.ownsRow (Q+1) 3 1 v' (l.length+1) (Be l++[.int .i64 A])):=hown3;have HB3:Hid (Below (Q+1) wr w3):=(Below.alloc (Below.refl _ _) hGw _).grown hgrow sO (fun q e=>(HO.lt q e).1);clear hown3 hgrow hnil hat))
     go_roundw
     case rel=>exact⟨HF.next HB3.out,1,l++[A],oM,by first|rfl|go_num,sO,by show _;rw[List.length_append,Br];exact HO3.out,⟨fun h=>absurd h oM,fun _=>by rw[hl0,show BJ L1 A=[A]from if_neg HZ.out];try rfl,fun h=>absurd h oM,fun h=>absurd h oM⟩⟩
     case measure=>simp[intOf]
   .have g0:=hF.g1;have f0:=kc (A0 wr (.cells #[.int .i64 B] 3)) g0;have hl0:=HL.2.1 rfl;have ix:∀w,(Instr.index 9 (.string ⟨#[a,b,c,d,e]⟩) (.int .i64 2)).run prog w=.ok (.int .u8 (c.toNat:Int)) w:=fun w=>by simp[Instr.index,run_underlying underlying9,asIntOf,go_sem];rfl
    have hq:=h2;clear hF h1 h2 h3;by_cases hz:L2=0
    .have hz':(!(L2==0))=false:=by simp[hz]
     rw[hz']at hq;have hq2:((c.toNat:Int)==45)=true:=by simpa[bne]using hq
     have HZ:Hid (L2=0):=hz;clear hz;go_wp2;go_roundw
     case rel=>exact⟨HF.out,2,l,oM,by first|rfl|go_num,oM,HO,⟨fun h=>absurd h oM,fun h=>absurd h oM,fun _=>by rw[hl0];unfold BJ;simp[HZ.out],fun h=>absurd h oM⟩⟩
     case measure=>simp[intOf]
    .have hz':(!(L2==0))=true:=by simp[hz]
     rw[hz']at hq;have hq2:((c.toNat:Int)==45)=false:=by simpa[bne]using hq
     have HZ:Hid (¬L2=0):=hz;clear hz;go_wp2_with(first
      |(at_builtin;refine wpList_append_own_at _ rfl _ _ 68 rfl (Q+1) 3 i0 _ 1 8 underlying68 hi0 hz0 hz1 hz3 rfl dE _ l.length (Be l) rfl (World.ownsRow.alloc HO.out _) ⟨wr.heap.size,0,none⟩ 1 1 [.int .i64 B] rfl rfl (World.news_of_block (cs:=#[.int .i64 B]) (t:=3) (fr:=(0,0)) (heap_alloc_new wr _)) JJ mL oM sO ?_;intro v' w3 hown3 hgrow hnil hat;have HO3:Hid (w3.ownsRow (Q+1) 3 1 v' (l.length+1) (Be l++[.int .i64 B])):=hown3;have HB3:Hid (Below (Q+1) wr w3):=(Below.alloc (Below.refl _ _) hGw _).grown hgrow sO (fun q e=>(HO.lt q e).1);clear hown3 hgrow hnil hat))
     go_roundw
     case rel=>exact⟨HF.next HB3.out,2,l++[B],oM,by first|rfl|go_num,sO,by show _;rw[List.length_append,Br];exact HO3.out,⟨fun h=>absurd h oM,fun h=>absurd h oM,fun _=>by rw[hl0,show BJ L2 B=[B]from if_neg HZ.out];try rfl,fun h=>absurd h oM⟩⟩
     case measure=>simp[intOf]
   .have g0:=hF.g2;have f0:=kc (A0 wr (.cells #[.int .i64 E] 3)) g0;have hl0:=HL.2.2.1 rfl;have ix:∀w,(Instr.index 9 (.string ⟨#[a,b,c,d,e]⟩) (.int .i64 3)).run prog w=.ok (.int .u8 (d.toNat:Int)) w:=fun w=>by simp[Instr.index,run_underlying underlying9,asIntOf,go_sem];rfl
    have hq:=h3;clear hF h1 h2 h3;by_cases hz:L3=0
    .have hz':(!(L3==0))=false:=by simp[hz]
     rw[hz']at hq;have hq2:((d.toNat:Int)==45)=true:=by simpa[bne]using hq
     have HZ:Hid (L3=0):=hz;clear hz;go_wp2;go_roundw
     case rel=>exact⟨HF.out,3,l,oM,by first|rfl|go_num,oM,HO,⟨fun h=>absurd h oM,fun h=>absurd h oM,fun h=>absurd h oM,fun _=>by rw[hl0];unfold BJ;simp[HZ.out]⟩⟩
     case measure=>simp[intOf]
    .have hz':(!(L3==0))=true:=by simp[hz]
     rw[hz']at hq;have hq2:((d.toNat:Int)==45)=false:=by simpa[bne]using hq
     have HZ:Hid (¬L3=0):=hz;clear hz;go_wp2_with(first
      |(at_builtin;refine wpList_append_own_at _ rfl _ _ 68 rfl (Q+1) 3 i0 _ 1 8 underlying68 hi0 hz0 hz1 hz3 rfl dE _ l.length (Be l) rfl (World.ownsRow.alloc HO.out _) ⟨wr.heap.size,0,none⟩ 1 1 [.int .i64 E] rfl rfl (World.news_of_block (cs:=#[.int .i64 E]) (t:=3) (fr:=(0,0)) (heap_alloc_new wr _)) JJ mL oM sO ?_;intro v' w3 hown3 hgrow hnil hat;have HO3:Hid (w3.ownsRow (Q+1) 3 1 v' (l.length+1) (Be l++[.int .i64 E])):=hown3;have HB3:Hid (Below (Q+1) wr w3):=(Below.alloc (Below.refl _ _) hGw _).grown hgrow sO (fun q e=>(HO.lt q e).1);clear hown3 hgrow hnil hat))
     go_roundw
     case rel=>exact⟨HF.next HB3.out,3,l++[E],oM,by first|rfl|go_num,sO,by show _;rw[List.length_append,Br];exact HO3.out,⟨fun h=>absurd h oM,fun h=>absurd h oM,fun h=>absurd h oM,fun _=>by rw[hl0,show BJ L3 E=[E]from if_neg HZ.out];try rfl⟩⟩
     case measure=>simp[intOf]
   .exact Mo
theorem CQ(t:Ty)(p:Option Addr)(n c:Nat)(hn:n<=140737488351232)(w:World):Calls prog 33 #[BI t,.slice p n c] w fun e w'=>e=.returned (.bool (An t n))/\Below w.heap.size w w':=by
 obtain⟨K,P⟩:=t;unfold An BI Ae;simp only;by_cases h1:K=1
 .subst h1;rw[if_pos (Or.inl rfl)];exact LJ
 .by_cases h2:K=2
  .subst h2;rw[if_pos (Or.inr rfl)];exact LJ
  .rw[if_neg (fun e=>e.elim h1 h2)];have h1':(K==1)=false:=by simpa using h1
   have h2':(K==2)=false:=by simpa using h2
   by_cases h3:K=3
   .subst h3;rw[if_pos rfl];by_cases h:0<=P
    all_goals
     go_enter func33,ntmps33;go_wp2;go_ret;exact⟨A9 (by simp[h];try omega),A0 _ _⟩
   .rw[if_neg h3];have h3':(K==3)=false:=by simpa using h3
    clear h1 h2 h3;exact LJ
theorem ER(v0 v1 v2 v3:Value)(c:Cd)(hk:AJ c)(n:Int)(w:World)(hv:Bt w v0 v1 v2 v3 c):
 Calls prog 82 #[.agg #[v0,v1,v2,v3],.int .i64 n] w fun e w'=>e=.returned (.tuple #[BI (Ak c.regs n),.bool (Ae n c.regs.length)])/\Below w.heap.size w w':=by
 have HB:=hk.regsL;have hr:=hv.regs;obtain⟨p,q,rfl,hrr⟩:=hv.regs;clear hv hk;by_cases h0:0<=n
 .by_cases h1:n<(c.regs.length:Int)
  .obtain⟨k,rfl⟩:∃k:Nat,n=(k:Int):=⟨n.toNat,oM⟩
   have hk:k<c.regs.length:=oM;have e:Ak c.regs (k:Int)=c.regs[k]:=BR rfl hk;have e2:Ae (k:Int) c.regs.length=true:=Cf.2 ⟨oM,oM⟩;rw[e,e2];obtain⟨lb,lo,rfl,hc⟩:=hr.at hk;obtain⟨⟨K,P⟩,ht⟩:∃t:Ty,c.regs[k]=t:=⟨_,rfl⟩
   rw[ht]at hc |-;have y0:w.cell? ⟨lb,lo+k*2,none⟩=some (.int .i64 K):=hc.at 0 rfl;have y1:w.cell? ⟨lb,lo+k*2+1,none⟩=some (.int .i64 P):=hc.at 1 rfl;have hlb:lb≠w.heap.size:=by have:=Ac y0;simp only at this;omega
   obtain⟨N,hN⟩:=gA (c.regs.length)
   rw[hN]at hk HB |-;clear hr hrr hc ht e e2 h0 h1 hN;have g0:∀o o',((w.alloc o).alloc o').cell? ⟨lb,lo+k*2,none⟩=some (.int .i64 K):=fun o o'=>kc (bel (A0 _ _) (A0 _ _)) y0;have g1:∀o o',((w.alloc o).alloc o').cell? ⟨lb,lo+k*2+1,none⟩=some (.int .i64 P):=fun o o'=>kc (bel (A0 _ _) (A0 _ _)) y1;unfold BI;go_enter func82,ntmps82;go_wp2;refine bodyPost_ret LO rfl ?_;exact IX
  .have e2:Ae n c.regs.length=false:=by unfold Ae;simp;omega
   have e:Ak c.regs n=⟨0,0⟩:=by unfold Ak;rw[e2];rfl
   rw[e,e2];obtain⟨N,hN⟩:=gA (c.regs.length)
   rw[hN]at h1 HB |-;clear hr hrr e e2 hN;unfold BI;go_enter func82,ntmps82;go_wp2;refine bodyPost_ret LO rfl ?_;exact IX
 .have e2:Ae n c.regs.length=false:=by unfold Ae;simp;omega
  have e:Ak c.regs n=⟨0,0⟩:=by unfold Ak;rw[e2];rfl
  rw[e,e2];obtain⟨N,hN⟩:=gA (c.regs.length)
  rw[hN]at HB |-;clear hr hrr e e2 hN;unfold BI;go_enter func82,ntmps82;go_wp2;refine bodyPost_ret LO rfl ?_;exact IX
def Cv(b:Int)(t d:Ty):Bool:=
 if b=110 then t.kind==1 else if b=119 then t.kind==2 else if b=118 then t.kind==3 else if b=100 then t.kind==1||t.kind==3
 else if b=120 then t.kind==1||decide (t=d)else if b=99 then decide (t=d)||(t.kind==1&&d.kind==3)else true
def Ag(rs:List Ty)(b n:Int)(d:Ty):Bool:=if b=45 then n==0 else Ae n rs.length&&Cv b (Ak rs n) d
theorem BT(v0 v1 v2 v3:Value)(c:Cd)(hk:AJ c)(b n:Int)(d:Ty)(hb:b=45\/b=110\/b=119\/b=118\/b=100\/b=120\/b=99\/b=97)(w:World)(hv:Bt w v0 v1 v2 v3 c):
 Calls prog 71 #[.agg #[v0,v1,v2,v3],.int .u8 b,.int .i64 n,BI d] w fun e w'=>e=.returned (.bool (Ag c.regs b n d))/\Below w.heap.size w w':=by
 have KT:Hid (∀v,Below w.heap.size w v->Calls prog 82 #[.agg #[v0,v1,v2,v3],.int .i64 n] v fun e w'=>e=.returned (.tuple #[BI (Ak c.regs n),.bool (Ae n c.regs.length)])/\Below v.heap.size v w'):=fun v h=>ER v0 v1 v2 v3 c hk n v (hv.below h);unfold Ag;obtain⟨X,hX⟩:=gA (Ae n c.regs.length)
 obtain⟨⟨K,P⟩,ht⟩:∃t:Ty,Ak c.regs n=t:=⟨_,rfl⟩
 rw[hX,ht]at KT |-;clear hX ht hv hk;obtain⟨dk,dp⟩:=d;unfold BI at KT |-;simp only at KT |-;by_cases h45:b=45
 .subst h45;rw[if_pos rfl];go_enter func71,ntmps71;go_wp2;go_ret;exact IX
 .rw[if_neg h45];have h45':(b==45)=false:=by simpa using h45
  cases X
  .rw[Bool.false_and];clear hb h45;go_enter func71,ntmps71;go_wp2_with(go_at_call 82;(with_reducible refine(KT.out _ (bel (A0 _ _) (A0 _ _))).mono ?_);rintro e w1 ⟨rfl,hb1⟩;have f0:∀o,(w1.alloc o).cell? ⟨w.heap.size+1,0,none⟩=some (.int .i64 dk):=(fun o=>kc (bel hb1 (A0 _ _)) sG);have f1:∀o,(w1.alloc o).cell? ⟨w.heap.size+1,1,none⟩=some (.int .i64 dp):=(fun o=>kc (bel hb1 (A0 _ _)) sG);have HB1:Hid _:=hb1;clear hb1);go_ret;exact⟨rfl,bel (bel (A0 _ _) (A0 _ _)) (bel HB1.out (A0 _ _))⟩
  .rw[Bool.true_and];rcases hb with rfl|rfl|rfl|rfl|rfl|rfl|rfl|rfl
   .exact absurd rfl h45
   all_goals clear h45 h45'
   all_goals
    cases h1:(K==1)
    all_goals
     by_cases hkd:K=dk
     .subst hkd;by_cases hpd:P=dp
      .subst hpd;go_enter func71,ntmps71;go_wp2_with(go_at_call 82;(with_reducible refine(KT.out _ (bel (A0 _ _) (A0 _ _))).mono ?_);rintro e w1 ⟨rfl,hb1⟩;have f0:∀o,(w1.alloc o).cell? ⟨w.heap.size+1,0,none⟩=some (.int .i64 K):=(fun o=>kc (bel hb1 (A0 _ _)) sG);have f1:∀o,(w1.alloc o).cell? ⟨w.heap.size+1,1,none⟩=some (.int .i64 P):=(fun o=>kc (bel hb1 (A0 _ _)) sG);have HB1:Hid _:=hb1;clear hb1);exact LF
      .go_enter func71,ntmps71;go_wp2_with(go_at_call 82;(with_reducible refine(KT.out _ (bel (A0 _ _) (A0 _ _))).mono ?_);rintro e w1 ⟨rfl,hb1⟩;have f0:∀o,(w1.alloc o).cell? ⟨w.heap.size+1,0,none⟩=some (.int .i64 K):=(fun o=>kc (bel hb1 (A0 _ _)) sG);have f1:∀o,(w1.alloc o).cell? ⟨w.heap.size+1,1,none⟩=some (.int .i64 dp):=(fun o=>kc (bel hb1 (A0 _ _)) sG);have HB1:Hid _:=hb1;clear hb1);exact LF
     .go_enter func71,ntmps71;go_wp2_with(go_at_call 82;(with_reducible refine(KT.out _ (bel (A0 _ _) (A0 _ _))).mono ?_);rintro e w1 ⟨rfl,hb1⟩;have f0:∀o,(w1.alloc o).cell? ⟨w.heap.size+1,0,none⟩=some (.int .i64 dk):=(fun o=>kc (bel hb1 (A0 _ _)) sG);have f1:∀o,(w1.alloc o).cell? ⟨w.heap.size+1,1,none⟩=some (.int .i64 dp):=(fun o=>kc (bel hb1 (A0 _ _)) sG);have HB1:Hid _:=hb1;clear hb1);exact LF
instance:DecidableEq AX:=fun a b=>by
 cases a;cases b
 simp only[AX.mk.injEq];exact inferInstanceAs (Decidable (_/\_/\_))
theorem Bj{P:Program}{w:World}{ops:Array Oper}{o:Oper}{a:Act}{K:Act->World->Prop}{Q:Exit->Act->World->Prop}{E:Prop}(hgd:o.guard=none)(t:TypeId)(x y:Operand)(yt:TypeId)
 (ho:o.op=.binOp .neq t x y yt) (v1 v2 v:Value) (hx:a.eval x=v1) (hy:a.eval y=v2) (hg:(eqGuard .neq t x y v1 v2).run P w=.ok () w) (hr:(binOp .neq t v1 v2).run P w=.ok v w) (h:K (a.put o.dst v) w):
 if Region.wanted o (yielded ops a.tmps)=true then Oper.wp P o a w K Q else E:=by
 have hw:Region.wanted o (yielded ops a.tmps)=true:=by simp[Region.wanted,hgd]
 rw[if_pos hw];unfold Oper.wp execOp;simp only[ho,Sem.run_bind,Sem.run_pure,Result.andThen_ok,hx,hy,hg,hr];exact h
theorem Jf(a b:AX)(w:World):(binOp .neq 63 (pv a) (pv b)).run prog w=.ok (.bool (!decide (a=b))) w:=by
 obtain⟨x0,x1,x2⟩:=a;obtain⟨y0,y1,y2⟩:=b;unfold pv;by_cases h0:x0=y0
 .subst h0;by_cases h1:x1=y1
  .subst h1;by_cases h2:x2=y2
   .subst h2;go_simp
   .go_simp
  .go_simp
 .go_simp;exact fun e=>absurd (Go.WideShapes.bytes_inj (by rwa[ByteArray.toList_eq,ByteArray.toList_eq]at e)) h0
theorem FT(p q:Operand)(a b:AX)(w:World):(eqGuard .neq 63 p q (pv a) (pv b)).run prog w=.ok () w:=by
 obtain⟨x0,x1,x2⟩:=a;obtain⟨y0,y1,y2⟩:=b;unfold pv;simp[eqGuard,go_sem]
theorem Ka(a b:Ty)(w:World):(binOp .neq 47 (BI a) (BI b)).run prog w=.ok (.bool (!decide (a=b))) w:=by
 obtain⟨x0,x1⟩:=a;obtain⟨y0,y1⟩:=b;unfold BI;by_cases h0:x0=y0
 .subst h0;by_cases h1:x1=y1
  .subst h1;go_simp
  .go_simp
 .go_simp
theorem Hq(p q:Operand)(a b:Ty)(w:World):(eqGuard .neq 47 p q (BI a) (BI b)).run prog w=.ok () w:=by
 obtain⟨x0,x1⟩:=a;obtain⟨y0,y1⟩:=b;unfold BI;simp[eqGuard,go_sem]
theorem K9(a b:Sl)(w:World):(binOp .neq 51 (Hg a) (Hg b)).run prog w=.ok (.bool (!decide (a=b))) w:=by
 obtain⟨⟨x0,x1⟩,x2,x3,x4⟩:=a;obtain⟨⟨y0,y1⟩,y2,y3,y4⟩:=b;unfold Hg;by_cases h0:x0=y0
 .subst h0;by_cases h1:x1=y1
  .subst h1;by_cases h2:x2=y2
   .subst h2;by_cases h3:x3=y3
    .subst h3;by_cases h4:x4=y4
     .subst h4;go_simp
     .go_simp
    .go_simp
   .go_simp
  .go_simp
 .go_simp
theorem Hp(p q:Operand)(a b:Sl)(w:World):(eqGuard .neq 51 p q (Hg a) (Hg b)).run prog w=.ok () w:=by
 obtain⟨⟨x0,x1⟩,x2,x3,x4⟩:=a;obtain⟨⟨y0,y1⟩,y2,y3,y4⟩:=b;unfold Hg;simp[eqGuard,go_sem]
theorem Je(a b:Ay)(w:World):(binOp .neq 53 (Bl a) (Bl b)).run prog w=.ok (.bool (!decide (a=b))) w:=by
 obtain⟨x0,x1,x2,x3,x4,x5,x6⟩:=a;obtain⟨y0,y1,y2,y3,y4,y5,y6⟩:=b;unfold Bl;by_cases h0:x0=y0
 .subst h0;by_cases h1:x1=y1
  .subst h1;by_cases h2:x2=y2
   .subst h2;by_cases h3:x3=y3
    .subst h3;by_cases h4:x4=y4
     .subst h4;by_cases h5:x5=y5
      .subst h5;by_cases h6:x6=y6
       .subst h6;go_simp
       .go_simp
      .go_simp
     .go_simp
    .go_simp
   .go_simp
  .go_simp
 .go_simp
theorem FS(p q:Operand)(a b:Ay)(w:World):(eqGuard .neq 53 p q (Bl a) (Bl b)).run prog w=.ok () w:=by
 obtain⟨x0,x1,x2,x3,x4,x5,x6⟩:=a;obtain⟨y0,y1,y2,y3,y4,y5,y6⟩:=b;unfold Bl;simp[eqGuard,go_sem]
theorem BA(a:Int)(h0:0<=a)(h1:a<4294967296)(w:World):Calls prog 50 #[.int .u32 a] w fun e w'=>e=.returned (.bool (B1 a))/\Below w.heap.size w w':=by
 have hc:B1 a=(Bw a==a):=by unfold B1 Bw;cases Ft a<;>rw[Bool.eq_iff_iff]<;>simp
 rw[hc];have HK:Hid (∀w,Calls prog 70 #[.int .i64 a] w fun e w'=>e=.returned (.int .i64 (Bw a))/\Below w.heap.size w w'):=EJ a h0 h1;have hw:IntKind.i64.wrap a=a:=by rw[IntKind.wrap_i64];omega
 clear hc;obtain⟨x,hx⟩:=gA (Bw a)
 rw[hx]at HK |-;clear hx;go_enter func50,ntmps50;go_wp2_with(go_at_call 70;refine(HK.out _).mono ?_;rintro e w1 ⟨rfl,hb1⟩;have HB1:Hid _:=hb1;clear hb1);go_ret;exact⟨rfl,HB1.out⟩
theorem Em(s:Sl)(h0:0<=s.bits)(h1:s.bits<4294967296)(p:Option Addr)(n c:Nat)(hn:n<=140737488351232)(w:World):
 Calls prog 34 #[Hg s,.slice p n c] w fun e w'=>e=.returned (.bool (AE s n))/\Below w.heap.size w w':=by
 have HK:Hid (∀w,Calls prog 50 #[.int .u32 s.bits] w fun e w'=>e=.returned (.bool (B1 s.bits))/\Below w.heap.size w w'):=BA s.bits h0 h1;have HT:Hid (∀w,Calls prog 33 #[BI s.ty,.slice p n c] w fun e w'=>e=.returned (.bool (An s.ty n))/\Below w.heap.size w w'):=CQ s.ty p n c hn;obtain⟨⟨K,P⟩,Q,B,I⟩:=s;unfold AE D6 Hg BC;unfold BI at HT;simp only at HK HT h0 h1 |-;obtain⟨X,hX⟩:=gA (B1 B)
 obtain⟨Y,hY⟩:=gA (An ⟨K,P⟩ n)
 rw[hX]at HK |-;rw[hY]at HT |-;clear hX hY;cases Y
 .rw[Bool.false_and];exact M7
 .rw[Bool.true_and];by_cases h2:K=2
  .subst h2;rw[if_pos rfl];cases hb:(B==0)
   .have hb':(B != 0)=true:=by simpa using hb
    exact M8
   .by_cases hi:0<=I
    all_goals
     exact M8
  .rw[if_neg h2];have h2':(K==2)=false:=by simpa using h2
   clear h2;cases hi:(I==0)
   all_goals
    exact M7
section
open Go.ChangeShapes Go.WideShapes Go.ChangeAt Go.RowKit
theorem Dx:Try.prog.cellsOf 53=7:=kR
theorem Dj:Try.prog.cellsOf 63=3:=kR
theorem Dz:Try.prog.cellsOf 47=2:=kR
theorem Dy:Try.prog.cellsOf 51=5:=kR
theorem Fa:Try.prog.cellsOf 27=4:=kR
theorem F7:Try.prog.bytesOf 53=56:=kR
theorem Ez:Try.prog.bytesOf 63=32:=kR
theorem F9:Try.prog.bytesOf 47=16:=kR
theorem F8:Try.prog.bytesOf 51=32:=kR
theorem C7{H:Type}{P:Program}{e:TypeId}:∀ {l:List (DataW H)} {d:DataW H},d∈l->∀n∈d.weights P e,n∈DataW.weightsAll P e l
 |[],d,h,n,hn=>by cases h
 |x::r,d,h,n,hn=>by
  simp only[DataW.weightsAll,List.mem_append];rcases List.mem_cons.1 h with rfl|h
  .exact .inl hn
  .exact .inr (C7 h n hn)
section
variable {H : Type} {enc : TypeId × Value -> H} {w : World} {base : Nat} {held : Bool}
def JH(i:Ay):Prop:=0<=i.bits/\i.bits<4294967296
theorem Hy{fuel:Nat}{cs:List Value}{x:DataW H×List MemPlace}(h:DataW.trod enc Try.prog w base (fun _=>true) held fuel 53 cs=some x):∃i:Ay,cs=C9 i/\JH i:=by
 obtain⟨xs,n,hfn,hx,hl,hxl,hf⟩:=DataW.trod_struct Try.underlying53 h;rw[Dx]at hl
 match cs,hl with
 |[v0,v1,v2,v3,v4,v5,v6],_=>
 match xs,hxl with
 |[y0,y1,y2,y3,y4,y5,y6],_=>
  have e0:DataW.trod enc Try.prog w base (fun _=>true) held n 3 [v0]=some y0:=hf 0 _ rfl;have e1:DataW.trod enc Try.prog w base (fun _=>true) held n 3 [v1]=some y1:=hf 1 _ rfl;have e2:DataW.trod enc Try.prog w base (fun _=>true) held n 3 [v2]=some y2:=hf 2 _ rfl;have e3:DataW.trod enc Try.prog w base (fun _=>true) held n 3 [v3]=some y3:=hf 3 _ rfl;have e4:DataW.trod enc Try.prog w base (fun _=>true) held n 3 [v4]=some y4:=hf 4 _ rfl;have e5:DataW.trod enc Try.prog w base (fun _=>true) held n 3 [v5]=some y5:=hf 5 _ rfl;have e6:DataW.trod enc Try.prog w base (fun _=>true) held n 49 [v6]=some y6:=hf 6 _ rfl;obtain⟨a0,c0,-,w0⟩:=DataW.trod_int Try.underlying3 e0;obtain⟨a1,c1,-,w1⟩:=DataW.trod_int Try.underlying3 e1;obtain⟨a2,c2,-,w2⟩:=DataW.trod_int Try.underlying3 e2;obtain⟨a3,c3,-,w3⟩:=DataW.trod_int Try.underlying3 e3;obtain⟨a4,c4,-,w4⟩:=DataW.trod_int Try.underlying3 e4;obtain⟨a5,c5,-,w5⟩:=DataW.trod_int Try.underlying3 e5;obtain⟨a6,c6,-,w6⟩:=DataW.trod_int Try.underlying49 e6;simp only[List.cons.injEq,and_true]at c0 c1 c2 c3 c4 c5 c6;subst c0 c1 c2 c3 c4 c5 c6;exact⟨⟨a0,a1,a2,a3,a4,a5,a6⟩,rfl,(bounds_u32 w6).1,Int.lt_add_one_of_le (bounds_u32 w6).2⟩
theorem Hz{fuel:Nat}{cs:List Value}{x:DataW H×List MemPlace}(h:DataW.trod enc Try.prog w base (fun _=>true) held fuel 63 cs=some x)(hw:∀n∈x.1.weights Try.prog 63,n<=reachBytes):
 ∃p:AX,cs=AQ p/\p.name.size<=140737488351232:=by
 obtain⟨xs,n,hfn,hx,hl,hxl,hf⟩:=DataW.trod_struct Try.underlying63 h;rw[Dj]at hl
 match cs,hl with
 |[v0,v1,v2],_=>
 match xs,hxl with
 |[y0,y1,y2],_=>
  have e0:DataW.trod enc Try.prog w base (fun _=>true) held n 9 [v0]=some y0:=hf 0 _ rfl;have e1:DataW.trod enc Try.prog w base (fun _=>true) held n 3 [v1]=some y1:=hf 1 _ rfl;have e2:DataW.trod enc Try.prog w base (fun _=>true) held n 3 [v2]=some y2:=hf 2 _ rfl;obtain⟨a0,c0,hd0,w0⟩:=DataW.trod_string Try.underlying9 e0;obtain⟨a1,c1,hd1,w1⟩:=DataW.trod_int Try.underlying3 e1;obtain⟨a2,c2,hd2,w2⟩:=DataW.trod_int Try.underlying3 e2;simp only[List.cons.injEq,and_true]at c0 c1 c2;subst c0 c1 c2;subst hx;have hws:∀ (j:Nat) (t:TypeId) (d:DataW H),[9,3,3][j]? =some t->[y0.1,y1.1,y2.1][j]? =some d->∀n∈d.weights Try.prog t,n<=reachBytes:=fun j t d ht hd n hn=>by
   refine hw n ?_;show n∈DataW.weights Try.prog 63 (.agg [y0.1,y1.1,y2.1]);rw[DataW.weights,Try.underlying63];exact DataW.weights_mem_each (ts:=[9,3,3]) ht hd n hn
  have s1:a0.size<=140737488351232:=by
   have:=hws 0 _ _ rfl rfl a0.data.toList.length (by rw[hd0];simp[DataW.weights]);simpa[reachBytes]using this
  exact⟨⟨a0,a1,a2⟩,rfl,s1⟩
theorem G0{fuel:Nat}{cs:List Value}{x:DataW H×List MemPlace}(h:DataW.trod enc Try.prog w base (fun _=>true) held fuel 47 cs=some x):∃t:Ty,cs=GA t/\True:=by
 obtain⟨xs,n,hfn,hx,hl,hxl,hf⟩:=DataW.trod_struct Try.underlying47 h;rw[Dz]at hl
 match cs,hl with
 |[v0,v1],_=>
 match xs,hxl with
 |[y0,y1],_=>
  have e0:DataW.trod enc Try.prog w base (fun _=>true) held n 3 [v0]=some y0:=hf 0 _ rfl;have e1:DataW.trod enc Try.prog w base (fun _=>true) held n 3 [v1]=some y1:=hf 1 _ rfl;obtain⟨a0,c0,-,w0⟩:=DataW.trod_int Try.underlying3 e0;obtain⟨a1,c1,-,w1⟩:=DataW.trod_int Try.underlying3 e1;simp only[List.cons.injEq,and_true]at c0 c1;subst c0 c1;exact⟨⟨a0,a1⟩,rfl,trivial⟩
def Kr(s:Sl):Prop:=0<=s.bits/\s.bits<4294967296
theorem Jk{fuel:Nat}{cs:List Value}{x:DataW H×List MemPlace}(h:DataW.trod enc Try.prog w base (fun _=>true) held fuel 51 cs=some x):∃s:Sl,cs=Hf s/\Kr s:=by
 obtain⟨xs,n,hfn,hx,hl,hxl,hf⟩:=DataW.trod_struct Try.underlying51 h;rw[Dy]at hl
 match cs,hl with
 |[v0,v1,v2,v3,v4],_=>
 match xs,hxl with
 |[y0,y1,y2,y3],_=>
  have e0:DataW.trod enc Try.prog w base (fun _=>true) held n 47 [v0,v1]=some y0:=hf 0 _ rfl;have e1:DataW.trod enc Try.prog w base (fun _=>true) held n 4 [v2]=some y1:=hf 1 _ rfl;have e2:DataW.trod enc Try.prog w base (fun _=>true) held n 49 [v3]=some y2:=hf 2 _ rfl;have e3:DataW.trod enc Try.prog w base (fun _=>true) held n 3 [v4]=some y3:=hf 3 _ rfl;obtain⟨t,ht,-⟩:=G0 e0;obtain⟨a1,c1,-⟩:=DataW.trod_bool Try.underlying4 e1;obtain⟨a2,c2,-,w2⟩:=DataW.trod_int Try.underlying49 e2;obtain⟨a3,c3,-,w3⟩:=DataW.trod_int Try.underlying3 e3;obtain⟨K,P⟩:=t;simp only[GA,List.cons.injEq,and_true]at ht c1 c2 c3;obtain⟨rfl,rfl⟩:=ht;subst c1 c2 c3;exact⟨⟨⟨K,P⟩,a1,a2,a3⟩,rfl,(bounds_u32 w2).1,Int.lt_add_one_of_le (bounds_u32 w2).2⟩
theorem Cq{α:Type}[Inhabited α]{f:α->List Value}{k bytes:Nat}{t e:TypeId}{Good:α->Prop}(hk:0<k)(hf:∀x,(f x).length=k)(ht:Try.prog.underlying t=some (.slice e))(hce:Try.prog.cellsOf e=k)(hby:Try.prog.bytesOf e=bytes)(hb0:0<bytes)
 (hop:∀ {fuel:Nat} {cs:List Value} {x:DataW H×List MemPlace},DataW.trod enc Try.prog w base (fun _=>true) held fuel e cs=some x->(∀n∈x.1.weights Try.prog e,n<=reachBytes)->∃a:α,cs=f a/\Good a)
 {fuel:Nat} {v:Value} {x:DataW H×List MemPlace} (h:DataW.trod enc Try.prog w base (fun _=>true) held fuel t [v]=some x) (hw:∀n∈x.1.weights Try.prog t,n<=reachBytes):
 ∃l:List α,AS k f w v l/\l.length*bytes<=140737488351232/\∀a∈l,Good a:=by
 rcases DataW.trod_slice ht h with⟨hcs,hx⟩|⟨a,len,cap,elems,rest,m,hm,hcs,hx,_,hl,_,hel,hread,_,_⟩
 .simp only[List.cons.injEq,and_true]at hcs;subst hcs;exact⟨[],⟨none,0,rfl,.inl rfl⟩,sM,fun a h=>by cases h⟩
 .simp only[List.cons.injEq,and_true]at hcs;subst hcs;subst hx;have CG:∀i,i<len->∃q:α,(∀j,j<k->w.cell? (a.add (i*k+j))=(f q)[j]?)/\Good q:=by
   intro i hi;have h1:=hread i hi;rw[hce]at h1;have hie:i<elems.length:=oM;rw[gB hie]at h1;obtain⟨cs',h2,h3⟩:=Option.bind_eq_some_iff.1 h1;obtain⟨_,hlen3,hcell⟩:=World.cells?_some h2;obtain⟨q,hcs,hok⟩:=hop h3 (fun n hn=>hw n (by
    rw[DataW.weights,ht]
    exact List.mem_cons_of_mem _ (List.mem_append_left _ (C7 (List.mem_map.2 ⟨elems[i],gD hie,rfl⟩) n hn))))
   refine⟨q,fun j hj=>?_,hok⟩;have:=hcell j hj;rw[Go.Deep.add_add,hcs]at this;exact this
  obtain⟨g,hg⟩:=Go.Deep.choose_lt CG;have hTl:((List.range len).map g).length=len:=sM;have hbig:len*bytes<=140737488351232:=by
   have:=hw _ (by rw[DataW.weights,ht];exact List.mem_cons_self);rw[hby]at this;simp only[List.length_map,reachBytes]at this;have hln:elems.length=len:=oM;simp only[hln]at this;exact gH (Nat.mul_le_mul_right _ (Nat.le_add_right _ _)) this
  refine⟨(List.range len).map g,?_,by rw[hTl];exact hbig,?_⟩
  .refine⟨some a,cap,by rw[hTl],?_⟩;by_cases hl0:len=0
   .left;simp[hl0]
   .obtain⟨b,off,spot⟩:=a;have hne:0<(f (g 0)).length:=by rw[hf];exact hk
    have hspot:spot=none:=by
     have:=(hg 0 oM).1 0 hk;rw[gB hne]at this;simpa[Addr.add]using World.cell?_spot this
    subst hspot;refine .inr ⟨b,off,rfl,fun i hi j hj=>?_⟩;have hi':i<len:=by rw[hTl]at hi;exact hi
    obtain⟨q,-⟩:=hg i hi';have e:((List.range len).map g)[i]=g i:=sM;have hj2:j<(f (g i)).length:=by simpa[e]using hj
    have hj3:j<k:=by rw[<-hf (g i)];exact hj2
    have q':=q j hj3;rw[Ev,<-Nat.add_assoc]at q';rw[q',gB hj2];congr 1;simp[e]
  .intro q hq;obtain⟨i,hi,rfl⟩:=List.mem_map.1 hq;exact(hg i (List.mem_range.1 hi)).2
instance:Inhabited Ay:=⟨⟨0,0,0,0,0,0,0⟩⟩
instance:Inhabited Ty:=⟨⟨0,0⟩⟩
instance:Inhabited Sl:=⟨⟨⟨0,0⟩,false,0,0⟩⟩
instance:Inhabited AX:=⟨⟨⟨#[]⟩,0,0⟩⟩
theorem GS{r:Reach}{b0:Nat}{v:Value}{d:DataW H}{pl:List MemPlace}(hv:Value.okWide Try.prog w r b0 27 v)(h:DataW.Trod enc Try.prog w base (fun _=>true) held 27 v d pl)(hw:∀n∈d.weights Try.prog 27,n<=reachBytes):
 ∃ (v0 v1 v2 v3:Value) (c:Cd),v=.agg #[v0,v1,v2,v3]/\Bt w v0 v1 v2 v3 c/\AJ c/\c.sign.length*32<=140737488351232/\c.regs.length*16<=140737488351232/\c.slots.length*32<=140737488351232/\c.list.length*56<=140737488351232:=by
 obtain⟨cs,rfl,hsz⟩:=okWide_struct Try.underlying27 hv;obtain⟨fuel,hf0⟩:=h;obtain⟨xs,n,hfn,hx,hl,hxl,hf⟩:=DataW.trod_struct Try.underlying27 hf0;rw[Fa]at hl;obtain⟨cl,hcl⟩:=gA ((Value.agg cs).cells.toList)
 rw[hcl]at hl hf;have hcs:cs.toList=cl:=by rw[<-hcl];simp[Value.cells]
 match cl,hl with
 |[v0,v1,v2,v3],_=>
 match xs,hxl with
 |[y0,y1,y2,y3],_=>
  have e0:DataW.trod enc Try.prog w base (fun _=>true) held n 22 [v0]=some y0:=hf 0 _ rfl;have e1:DataW.trod enc Try.prog w base (fun _=>true) held n 23 [v1]=some y1:=hf 1 _ rfl;have e2:DataW.trod enc Try.prog w base (fun _=>true) held n 24 [v2]=some y2:=hf 2 _ rfl;have e3:DataW.trod enc Try.prog w base (fun _=>true) held n 25 [v3]=some y3:=hf 3 _ rfl;have hd:d=.agg [y0.1,y1.1,y2.1,y3.1]:=congrArg Prod.fst hx;have hws:∀ (j:Nat) (t:TypeId) (d:DataW H),[22,23,24,25][j]? =some t->[y0.1,y1.1,y2.1,y3.1][j]? =some d->∀n∈d.weights Try.prog t,n<=reachBytes:=fun j t d' ht hd' n hn=>by
   refine hw n ?_;rw[hd];show n∈DataW.weights Try.prog 27 (.agg [y0.1,y1.1,y2.1,y3.1]);rw[DataW.weights,Try.underlying27];exact DataW.weights_mem_each (ts:=[22,23,24,25]) ht hd' n hn
  obtain⟨l0,r0,s0,g0⟩:=Cq (Good:=fun p:AX=>p.name.size<=140737488351232) dE CM Try.underlying22 Dj Ez dE (fun h hw=>Hz h hw) e0 (hws 0 _ _ rfl rfl);obtain⟨l1,r1,s1,g1⟩:=Cq (Good:=fun _:Ty=>True) dE Dv Try.underlying23 Dz F9 dE (fun h _=>G0 h) e1 (hws 1 _ _ rfl rfl);obtain⟨l2,r2,s2,g2⟩:=Cq (Good:=Kr) dE Eo Try.underlying24 Dy F8 dE (fun h _=>Jk h) e2 (hws 2 _ _ rfl rfl);obtain⟨l3,r3,s3,g3⟩:=Cq (Good:=JH) dE CI Try.underlying25 Dx F7 dE (fun h _=>Hy h) e3 (hws 3 _ _ rfl rfl);refine⟨v0,v1,v2,v3,⟨l0,l1,l2,l3⟩,?_,⟨r0,r1,r2,r3⟩,⟨by show l0.length<=_;omega,g0,by show l1.length<=_;omega,by show l2.length<=_;omega,by show l3.length<=_;omega,g2,g3⟩,s0,s1,s2,s3⟩;rw[Value.agg.injEq];apply Array.toList_inj.1;exact hcs
end
end
end Go.Proofs.Ytheanilpbnencaa
