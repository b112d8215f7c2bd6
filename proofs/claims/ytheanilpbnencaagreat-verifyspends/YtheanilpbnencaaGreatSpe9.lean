import Derived.Test.YtheanilpbnencaaGreatSpe1
import Derived.Test.YtheanilpbnencaaGreatSpe8
import Derived.Test.YtheanilpbnencaaGreatSpe6
import Derived.Test.YtheanilpbnencaaGreatSpe2
namespace Go.Proofs.YtheanilpbnencaaGreat
open Go.RowKit Go.Proofs.Tryz
set_option linter.all false
set_option maxRecDepth 100000
set_option maxHeartbeats 16000000
theorem EX:(prog.info? 4).map (fun i=>(i.zero,i.size,i.bytes))=some (some (.bool false),1,1):=kR
theorem Vo(m:Nat)(h:m<=70368744177664)(w:World):(Instr.makeSlice 78 (.int .i64 m) (.int .i64 m)).run prog w=.ok (.slice (some ⟨w.heap.size,0,none⟩) m m) (w.alloc (.cells (madeCells #[.bool false] m) 4)):=
 run_make_row' (P:=prog) 78 4 (.bool false) 1 underlying78 EX rfl .i64 .i64 m oM oM w
theorem WS.start(w:World)(C n:Nat):WS w.heap.size (w.heap.size+1) C n w.heap.size (.slice none 0 0) (.slice none 0 0) ((w.alloc (.cells (madeCells #[.bool false] n) 4)).alloc (.cells #[.pointer (some ⟨C,0,none⟩),.slice (some ⟨w.heap.size,0,none⟩) n n,.slice none 0 0,.slice none 0 0] 81)) ⟨[],[]⟩:=by
 have h1:=(World.rowIs_made w (.bool false) n 4).alloc (.cells #[.pointer (some ⟨C,0,none⟩),.slice (some ⟨w.heap.size,0,none⟩) n n,.slice none 0 0,.slice none 0 0] 81);have h2:=World.rowIs_alloc (w.alloc (.cells (madeCells #[.bool false] n) 4)) #[.pointer (some ⟨C,0,none⟩),.slice (some ⟨w.heap.size,0,none⟩) n n,.slice none 0 0,.slice none 0 0] 81 (WU C w.heap.size n (.slice none 0 0) (.slice none 0 0)) (fun i hi=>by
  have hi':i<4:=hi;obtain rfl|rfl|rfl|rfl:i=0\/i=1\/i=2\/i=3:=oM
  all_goals rfl)
 have hs:(w.alloc (.cells (madeCells #[.bool false] n) 4)).heap.size=w.heap.size+1:=sM;rw[hs]at h2;exact⟨h2,h1.congr fun j _=>by simp,World.ownsRow_nil _ _ _ 1,World.ownsRow_nil _ _ _ 3,oM,gF _,oM,by simp[Value.ownBlock],by simp[Value.ownBlock],by simp[Value.ownBlock],by simp[Value.ownBlock],by simp[Value.ownBlock]⟩
theorem ER(v0 v1 v2 v3:Value)(c:Cd)(hk:AZ c)(w:World)(hv:Cy w v0 v1 v2 v3 c):
 Calls prog 9 #[.agg #[v0,v1,v2,v3]] w fun e w'=>e=.returned (.tuple #[.int .i64 (Ag c).1,.int .i64 (Ag c).2])/\Below w.heap.size w w':=by
 have hat:B7 (w.alloc (.cells #[v0,v1,v2,v3] 27)) w.heap.size v0 v1 v2 v3 c:=by
  refine⟨fun j hj=>?_,hv.below (A0 _ _)⟩;have hj':j<4:=hj;obtain rfl|rfl|rfl|rfl:j=0\/j=1\/j=2\/j=3:=oM
  all_goals simp[go_sem]
 have K1:=Hc w.heap.size v0 v1 v2 v3 c hk _ hat;unfold Ag;obtain⟨A,hA⟩:=gA (BJ c)
 rw[hA]at K1 |-;have HK1:Hid (Calls prog 22 #[.pointer (some ⟨w.heap.size,0,none⟩)] (w.alloc (.cells #[v0,v1,v2,v3] 27)) fun e w'=>e=.returned (.int .i64 A)/\Below (w.alloc (.cells #[v0,v1,v2,v3] 27)).heap.size (w.alloc (.cells #[v0,v1,v2,v3] 27)) w'):=K1;clear K1;by_cases h0:A=0
 .rw[if_neg (by simp[h0])];have hsz:c.regs.length<=16384/\c.list.length<=32768/\Ad c=true:=by
   rw[h0]at hA;unfold BJ at hA;split at hA
   .rename_i e1;exact absurd hA e1
   .split at hA
    .exact absurd hA dE
    .split at hA
     .exact absurd hA dE
     .split at hA
      .rename_i e1 e2 e3 e4;simp only[Bool.and_eq_true]at e4;exact⟨oM,oM,e4.1⟩
      .exact absurd hA dE
  obtain⟨hn,hN,htm⟩:=hsz;clear hA;subst h0;have KT:=fun E G gi vs vo s b o i w h ok hc hi hb hb0 hb1=>Ln E G w.heap.size c.regs.length gi vs vo s v0 v1 v2 v3 c hk b o i w h rfl ok hn hc hi hb htm hb0 hb1;clear KT;have hr:=hv.list;obtain⟨p3,q3,rfl,hr3⟩:=hv.list;obtain⟨p1,q1,rfl,hr1⟩:=hv.regs;have HAT:Hid (B7 (w.alloc (.cells #[v0,.slice p1 c.regs.length q1,v2,.slice p3 c.list.length q3] 27)) w.heap.size v0 (.slice p1 c.regs.length q1) v2 (.slice p3 c.list.length q3) c):=hat;obtain⟨Pr,hPr⟩:∃P,In c ⟨[],[]⟩ 0 c.list=P:=⟨_,rfl⟩
  rw[hPr];have HP:Hid (In c ⟨[],[]⟩ 0 c.list=Pr):=hPr;have HROW:Hid (Bj 7 EW w (.slice p3 c.list.length q3) c.list):=hr;have HIB:Hid (∀i∈c.list,0<=i.bits/\i.bits<4294967296):=hk.ibits;obtain⟨n,hnn⟩:=gA (c.regs.length)
  obtain⟨N,hNN⟩:=gA (c.list.length)
  have HNE:Hid (c.regs.length=n):=hnn;have HNL:Hid (c.list.length=N):=hNN;rw[hnn]at hn HK1 HAT;rw[hNN]at hN HK1 HAT HROW;rw[hnn,hNN];have mk:=fun w=>Vo n oM w;have HOKC:Hid (AZ c):=hk;have HTM:Hid (Ad c=true):=htm;have f1:=HAT.1.at 1 rfl;have f3:=HAT.1.at 3 rfl;rw[Nat.zero_add]at f1 f3;have HC:Hid (∀v,Below (w.alloc (.cells #[v0,.slice p1 n q1,v2,.slice p3 N q3] 27)).heap.size (w.alloc (.cells #[v0,.slice p1 n q1,v2,.slice p3 N q3] 27)) v->v.cell? ⟨w.heap.size,1,none⟩=some (.slice p1 n q1)/\v.cell? ⟨w.heap.size,3,none⟩=some (.slice p3 N q3)):=fun v hv=>⟨kc hv f1,kc hv f3⟩
  clear hat hv hr hr3 hr1 hPr hnn hNN hk htm f1 f3;go_enter func9,ntmps9;go_wp2_with(go_at_call 22;refine HK1.mono ?_;rintro e w1 ⟨rfl,hb1⟩;obtain⟨g1,g3⟩:=HC.out w1 hb1;have g4:((w1.alloc (.cells (madeCells #[.bool false] n) 4)).alloc (.cells #[.pointer (some ⟨w.heap.size,0,none⟩),.slice (some ⟨w1.heap.size,0,none⟩) n n,.slice none 0 0,.slice none 0 0] 81)).cell? ⟨w.heap.size,3,none⟩=some (.slice p3 N q3):=kc (A0 _ _) (kc (A0 _ _) g3));have HB1:Hid (Below w.heap.size w w1):=bel (A0 _ _) hb1;have HAT1:Hid (B7 w1 w.heap.size v0 (.slice p1 n q1) v2 (.slice p3 N q3) c):=HAT.below hb1;have hs1:w.heap.size<w1.heap.size:=by have:=hb1.size;simp at this;omega
  have HS0:=WS.start w1 w.heap.size n;have HB0:Below w1.heap.size w1 ((w1.alloc (.cells (madeCells #[.bool false] n) 4)).alloc (.cells #[.pointer (some ⟨w.heap.size,0,none⟩),.slice (some ⟨w1.heap.size,0,none⟩) n n,.slice none 0 0,.slice none 0 0] 81)):=bel (A0 _ _) (A0 _ _);obtain⟨W2,hW2⟩:=gA ((w1.alloc (.cells (madeCells #[.bool false] n) 4)).alloc (.cells #[.pointer (some ⟨w.heap.size,0,none⟩),.slice (some ⟨w1.heap.size,0,none⟩) n n,.slice none 0 0,.slice none 0 0] 81))
  rw[hW2]at HS0 HB0;try rw[hW2]
  clear HK1 HC hb1 mk HAT g4 hW2
  go_loopw [19] (fun iv wr=>∃ (j:Nat) (s:Wk) (vs vo:Value),j<=N/\iv=.int .i64 j/\Below w1.heap.size w1 wr/\WS w1.heap.size (w1.heap.size+1) w.heap.size n w1.heap.size vs vo wr s/\D4 n s/\Hid (In c s j (c.list.drop j)=Pr)) (fun iv _=>N-(intOf iv).toNat)
  case atStart=>exact⟨0,⟨[],[]⟩,_,_,gI _,rfl,HB0,HS0,D4.start n,by show _=_;rw[List.drop_zero];exact HP.out⟩
  case round=>
   obtain⟨j,s,vs,vo,hj,rfl,hb,hws,hok,hgo⟩:=hrel;have HWS:Hid (WS w1.heap.size (w1.heap.size+1) w.heap.size n w1.heap.size vs vo wr s):=hws;have HOK:Hid (D4 n s):=hok;have HBW:Hid (Below w1.heap.size w1 wr):=hb;have d3:=kc hb g3;have l3:=hws.c3;have hol:∃p q,vo=.slice p s.opens.length q:=At hws.opn;have hnest:=hok.nest;clear HS0 HB0;by_cases hlt:j<N
   .have hll:j<c.list.length:=by rw[HNL.out];exact hlt
    have hgo':=hgo.out;rw[List.drop_eq_getElem_cons hll]at hgo';have hgi:In c s j (c.list[j]::c.list.drop (j+1))=if AF c s c.list[j]then In c (Al s c.list[j]) (j+1) (c.list.drop (j+1))else(160,(j:Int)):=rfl;rw[hgi]at hgo';obtain⟨b,o,rfl,hx⟩:=HROW.at hll;have hbw:b<w.heap.size:=A3 (hx 0 (by simp[EW]));have hxw:=(hx.below HB1.out).below hb;have KT:=Ln w1.heap.size (w1.heap.size+1) w.heap.size n w1.heap.size vs vo s v0 (.slice p1 n q1) v2 (.slice (some ⟨b,o,none⟩) N q3) c HOKC.out b (o+j*7) c.list[j] wr hws HNE.out hok hn (HAT1.below hb) hxw oM HTM.out (HIB.out _ (gD hll)).1 (HIB.out _ (gD hll)).2;have hokS:AF c s c.list[j]=true->D4 n (Al s c.list[j]):=fun ht=>by
     have hq:D4 c.regs.length s:=by rw[HNE.out];exact hok
     have:=D4.step hq ht;rw[HNE.out]at this;exact this
    obtain⟨X,hX⟩:=gA (AF c s c.list[j])
    rw[hX]at hgo' hokS;simp only[hX]at KT;have HKT:Hid (Calls prog 23 #[.pointer (some ⟨w1.heap.size+1,0,none⟩),.pointer (some ⟨b,o+j*7,none⟩)] wr fun e w'=>e=.returned (.bool X)/\Below w1.heap.size wr w'/\(X=true->∃vs' vo',WS w1.heap.size (w1.heap.size+1) w.heap.size n w1.heap.size vs' vo' w' (Al s c.list[j]))):=KT;have HGO:Hid ((if X=true then In c (Al s c.list[j]) (j+1) (c.list.drop (j+1))else(160,(j:Int)))=Pr):=hgo';have HOS:Hid (X=true->D4 n (Al s c.list[j])):=hokS;have i1:(0:Int)<=(j:Int):=oM;have i2:(j:Int)<(N:Int):=oM;clear KT hgo hgo' hgi hokS hX hx hxw hws hok hb hol l3;cases X
    .go_wp2_with(go_at_call 23;refine HKT.mono ?_;rintro e w5 ⟨rfl,hb5,hw5⟩;have HB5:Hid (Below w1.heap.size wr w5):=hb5;clear hb5 hw5)
     go_ret2
     refine⟨?_,bel HB1.out (HBW.trans HB5.out)⟩;have:=HGO.out;rw[if_neg dE]at this;rw[<-this];rfl
    .go_wp2_with(go_at_call 23;refine HKT.mono ?_;rintro e w5 ⟨rfl,hb5,hw5⟩;have HB5:Hid (Below w1.heap.size wr w5):=hb5;have HW5:Hid (∃vs' vo',WS w1.heap.size (w1.heap.size+1) w.heap.size n w1.heap.size vs' vo' w5 (Al s c.list[j])):=hw5 fT;clear hb5 hw5);go_roundw
     case rel=>
      obtain⟨vs',vo',hw5⟩:=HW5.out;exact⟨j+1,_,vs',vo',oM,gN,HBW.trans HB5.out,hw5,HOS.out fT,by show _=_;have:=HGO.out;rw[if_pos fT]at this;exact this⟩
     case measure=>simp[intOf];omega
   .have:j=N:=oM;subst this;have hgo':=hgo.out;rw[List.drop_of_length_le (by rw[HNL.out];exact gF _)]at hgo';have hgi:In c s j []=if s.opens.isEmpty then(0,0)else(160,(j:Int)):=rfl;rw[hgi]at hgo';obtain⟨p,q,rfl⟩:=hol;obtain⟨M,hM⟩:=gA (s.opens.length)
    rw[hM]at l3 hnest;have hE:s.opens.isEmpty=decide (M=0):=by
     rw[<-hM];cases s.opens with
     |nil=>rfl
     |cons a l=>simp
    rw[hE]at hgo';have HGO:Hid ((if decide (M=0)=true then((0:Int),(0:Int))else(160,(j:Int)))=Pr):=hgo';clear hgo hgo' hgi hE hM hws hok hb;by_cases hz:M=0
    .subst hz;go_wp2
     go_ret2
     refine⟨?_,bel HB1.out HBW.out⟩;rw[<-HGO.out];rfl
    .have hz':(0:Int)<(M:Int):=oM;have hz2:0<M:=oM;have HZ:Hid (¬M=0):=hz;clear hz;go_wp2;refine rG (fun v=>v.cell? ⟨w.heap.size,3,none⟩=some (.slice p3 j q3)) fun hJ=>?_;refine Tc 0 1 2 ?_;refine Tb 3 4 ?_;refine wpAnyH_done kR ?_ _;go_wp2
     go_ret2
     refine⟨?_,(bel HB1.out HBW.out).drew⟩;have:=HGO.out;rw[if_neg (by simpa using HZ.out)]at this;rw[<-this];rfl
 .rw[if_pos h0];have h0':(A==0)=false:=by simpa using h0
  go_enter func9,ntmps9;go_wp2_with(go_at_call 22;refine HK1.mono ?_;rintro e w1 ⟨rfl,hb1⟩)
  all_goals(go_ret2;exact⟨rfl,bel (A0 _ _) hb1⟩)
def Dz(i:Am):Value:=.agg #[.int .i64 i.op,.int .i64 i.d,.int .i64 i.a,.int .i64 i.b,.int .i64 i.c,.int .i64 i.n,.int .u32 i.bits]
def AT{α:Type}(f:α->List Value)(l:List α):List Value:=l.flatMap f
theorem Ex{α:Type}{f:α->List Value}{k:Nat}(hf:∀x,(f x).length=k):∀l:List α,(AT f l).length=l.length*k
 |[]=>by simp[AT]
 |a::l=>by
  have e:AT f (a::l)=f a++AT f l:=by simp[AT]
  rw[e,List.length_append,Ex hf l,hf,List.length_cons,Nat.add_mul,Nat.one_mul,Nat.add_comm]
theorem GQ{α:Type}{f:α->List Value}{k:Nat}(hf:∀x,(f x).length=k):∀ (l:List α) (i j:Nat) (hi:i<l.length),j<k->(AT f l)[i*k+j]? =(f l[i])[j]?
 |[],i,j,hi,hj=>absurd hi (Nat.not_lt_zero _)
 |a::l,0,j,hi,hj=>by
  have e:AT f (a::l)=f a++AT f l:=by simp[AT]
  rw[e,Nat.zero_mul,Nat.zero_add,List.getElem?_append_left (by rw[hf];exact hj)];rfl
 |a::l,i+1,j,hi,hj=>by
  have e:AT f (a::l)=f a++AT f l:=by simp[AT]
  have e2:(i+1)*k+j-(f a).length=i*k+j:=by rw[hf,Nat.add_mul,Nat.one_mul];omega
  rw[e,List.getElem?_append_right (by rw[hf,Nat.add_mul,Nat.one_mul];omega),e2];exact GQ hf l i j (by simpa using hi) hj
theorem Ew{α:Type}(f:α->List Value)(l m:List α):AT f (l++m)=AT f l++AT f m:=by simp[AT]
theorem DU{α:Type}{f:α->List Value}{k:Nat}(hf:∀x,(f x).length=k){w:World}{B:Nat}{t:TypeId}{v:Value}{l:List α}(h:w.ownsRow B t k v l.length (AT f l)):Bj k f w v l:=by
 by_cases h0:l=[]
 .subst h0;obtain⟨p,c,hv⟩:=At h;exact⟨p,c,hv,.inl rfl⟩
 .obtain⟨g,cap,hv,_,_,_,_,hcl⟩:=EH h (List.length_pos_iff.2 h0);refine⟨_,cap,hv,.inr ⟨g,0,rfl,fun i hi j hj=>?_⟩⟩;rw[Nat.zero_add];exact hcl _ _ (by rw[GQ hf l i j hi (by rw[<-hf l[i]];exact hj)];exact gB hj)
theorem JQ(b o j:Nat):(⟨b,o,none⟩:Addr).add j=⟨b,o+j,none⟩:=by unfold Addr.add;split<;>simp_all
theorem Pg{α:Type}{f:α->List Value}{k:Nat}(hk:0<k)(hf:∀x,(f x).length=k){w:World}{b o:Nat}{l:List α}(h:∀i (hi:i<l.length),Ai w b (o+i*k) (f l[i]))(j:Nat)(u:Value)(hu:(AT f l)[j]? =some u):w.cell? ((⟨b,o,none⟩:Addr).add j)=some u:=by
 have hj:j<l.length*k:=by have:=(List.getElem?_eq_some_iff.1 hu).1;rwa[Ex hf]at this
 have hi:j/k<l.length:=Nat.div_lt_of_lt_mul (by rw[Nat.mul_comm];exact hj);have hm:j%k<k:=Nat.mod_lt _ hk;have e:j=j/k*k+j%k:=by rw[Nat.mul_comm];exact(Nat.div_add_mod j k).symm
 rw[e,GQ hf l _ _ hi hm]at hu;rw[JQ];have:=(h _ hi).at _ hu;rw[Nat.add_assoc,<-e]at this;exact this
theorem DC{α:Type}{f:α->List Value}{k bytes:Nat}{t e:TypeId}{z:Value}{i:TypeInfo}(hk:0<k)(hf:∀x,(f x).length=k)(h1:∀x,∀u∈f x,u.oneCell'=true)(ht:prog.underlying t=some (.slice e))(hi:prog.info? e=some i)(hz:i.zero=some z)(hsize:i.size=k)(hby:i.bytes=bytes)(hzs:z.cells.size=k)
 {l:List α} {v:Value} {w:World} (h:Bj k f w v l) (hl:l.length<=maxLen) (hb:l.length*bytes<=140737488355328) (ty:TypeId):
 ∃v' w',(Builtin.append_ #[t,t] ty #[.slice none 0 0,v]).run prog w=.ok v' w'/\Below w.heap.size w w'/\w'.ownsRow w.heap.size e k v' l.length (AT f l):=by
 obtain⟨p,c,rfl,h⟩:=h;by_cases h0:l=[]
 .subst h0;refine⟨.slice none 0 0,w,?_,Below.refl _ _,⟨by simp[AT],.inl ⟨rfl,rfl⟩⟩⟩;cases p with
  |none=>simp[Builtin.append_,run_underlying ht,sizeOf,typeInfo,hi,Builtin.lenOf,Builtin.firstCells,storeCells]
  |some a=>simp[Builtin.append_,run_underlying ht,sizeOf,typeInfo,hi,Builtin.lenOf,Builtin.firstCells,storeCells,loadCells,loadCellsFrom]
 .obtain⟨b,o,rfl,h2⟩:=h.resolve_left h0;have hpos:0<l.length:=List.length_pos_iff.2 h0;obtain⟨g,cap,w',hr,hown,hg,hat,hlt⟩:=run_append_lies (P:=prog) w t ty w.heap.size e i z k bytes ht hi hz hsize hby hzs hk (.slice none 0 0) 0 [] (World.ownsRow_nil w _ _ k) ⟨b,o,none⟩ l.length c (AT f l) (Ex hf l) (Pg hk hf h2) (by intro u hu;obtain⟨x,_,hx⟩:=List.mem_flatMap.1 hu;exact h1 x u hx) hpos oM (by rw[Nat.zero_add];exact hb) (gF _) w.heap.size rfl;rw[Nat.zero_add]at hr hown;exact⟨_,w',hr,⟨hg.os,hg.tape,hg.output,hg.size,fun j hj=>hg.block j hj (by show some j≠none;simp)⟩,by rw[List.nil_append]at hown;exact hown⟩
theorem AH{P:Program}{w w':World}{ops:Array Oper}{rest:List Oper}{o:Oper}{a:Act}{Q:Exit->Act->World->Prop}(hgd:o.guard=none)(s x:Operand)(t:TypeId)
 (ho:o.op=.call {callee:=.builtin .append,args:=#[s,x],argTypes:=#[t,t]}) (v v2 v':Value) (hs:a.eval s=v) (hx:a.eval x=v2) (hr:(Builtin.append_ #[t,t] o.type #[v,v2]).run P w=.ok v' w')
 (h:wpList P ops Q rest (a.put o.dst v') w'):wpList P ops Q (o::rest) a w:=
 wpList_plain hgd fun _ hK=>by
  unfold Oper.wp execOp;simp only[ho,resolve,invoke,builtin,Sem.run_bind,Sem.run_pure,Result.andThen_ok,List.map_toArray,List.map_cons,List.map_nil,hs,hx,hr];exact hK _ _ h
theorem Tr:∀x:Am,∀u∈EW x,u.oneCell'=true:=fun x u hu=>by simp[EW]at hu;rcases hu with rfl|rfl|rfl|rfl|rfl|rfl|rfl<;>rfl
theorem OK:(prog.info? 55).map (fun i=>(i.zero,i.size,i.bytes))=some (some (.agg #[.int .i64 0,.int .i64 0,.int .i64 0,.int .i64 0,.int .i64 0,.int .i64 0,.int .u32 0]),7,56):=kR
theorem SS{l:List Am}{v:Value}{w:World}(h:Bj 7 EW w v l)(hl:l.length*56<=140737488355328)(ty:TypeId):
 ∃v' w',(Builtin.append_ #[25,25] ty #[.slice none 0 0,v]).run prog w=.ok v' w'/\Below w.heap.size w w'/\w'.ownsRow w.heap.size 55 7 v' l.length (AT EW l):=by
 obtain⟨i0,hi0,hz0,hz1,hz2⟩:=info_parts OK;exact DC dE FD Tr underlying25 hi0 hz0 hz1 hz2 rfl h mL hl ty


def Sa(i:Am):Bool:=(A5 i.op).d != 0
theorem P8(op:Int)(w:World):Calls prog 88 #[.int .i64 op] w fun e w'=>e=.returned (.bool (As op))/\w'=w:=by
 unfold As;by_cases h:3<=op
 all_goals
  go_enter func88,ntmps88;exact Xc
theorem UI(a:UInt8)(X:Bool)(h:(a==45)=X):((a.toNat:Int) != 45)= !X:=by
 rw[<-h];have:((a.toNat:Int)==45)=(a==45):=by
  rw[Bool.eq_iff_iff];simp only[beq_iff_eq];constructor
  .intro e;apply UInt8.toNat_inj.1;show a.toNat=45;omega
  .intro e;subst e;rfl
 simp[bne,this]
theorem Ph(i:Am)(w:World):Calls prog 32 #[Dz i] w fun e w'=>e=.returned (.bool (Sa i))/\Below w.heap.size w w':=by
 unfold Sa;rcases KK i.op (w.alloc (.cells #[.int .i64 i.op,.int .i64 i.d,.int .i64 i.a,.int .i64 i.b,.int .i64 i.c,.int .i64 i.n,.int .u32 i.bits] 55))with⟨hk,hc⟩|⟨hk,a,b,c,d,e,ht,hc⟩
 .rw[FU i.op hk];obtain⟨op,D,A,B,E,n,bt⟩:=i;unfold Dz;simp only at hc hk |-;have HK:Hid (Calls prog 62 #[.int .i64 op] (w.alloc (.cells #[.int .i64 op,.int .i64 D,.int .i64 A,.int .i64 B,.int .i64 E,.int .i64 n,.int .u32 bt] 55)) fun e w'=>e=.returned (.tuple #[.string ⟨#[]⟩,.bool false])/\w'=w.alloc (.cells #[.int .i64 op,.int .i64 D,.int .i64 A,.int .i64 B,.int .i64 E,.int .i64 n,.int .u32 bt] 55)):=hc;clear hc;go_enter func32,ntmps32;go_wp2_with(go_at_call 62;refine HK.mono ?_;rintro e w1 ⟨rfl,rfl⟩);go_ret;exact⟨rfl,A0 _ _⟩
 .have h1:=UI a _ ht.a;obtain⟨X,hX⟩:=gA ((A5 i.op).d)
  rw[hX]at h1 |-;obtain⟨op,D,A,B,E,n,bt⟩:=i;unfold Dz;simp only at hc |-;have HK:Hid (∀w,Calls prog 62 #[.int .i64 op] w fun x w'=>x=.returned (.tuple #[.string ⟨#[a,b,c,d,e]⟩,.bool true])/\w'=w):=hc;have ix:∀w,(Instr.index 9 (.string ⟨#[a,b,c,d,e]⟩) (.int .i64 0)).run prog w=.ok (.int .u8 (a.toNat:Int)) w:=fun w=>by simp[Instr.index,run_underlying underlying9,asIntOf,go_sem];rfl
  clear hc ht hX;go_enter func32,ntmps32;go_wp2_with(go_at_call 62;refine(HK.out _).mono ?_;rintro e w1 ⟨rfl,rfl⟩);go_ret;refine⟨A6 ?_,A0 _ _⟩;first|exact h1|(simp only[h1];rfl)|simp[h1,bne]
structure VW(w:World)(C Q:Nat)(A B E:Int)(v:World):Prop where
 bel:Below w.heap.size w v
 hC:w.heap.size<=C
 hQ:Q<C
 le:C<=v.heap.size
 g0:v.cell? ⟨Q,0,none⟩=some (.int .i64 A)
 g1:v.cell? ⟨Q,1,none⟩=some (.int .i64 B)
 g2:v.cell? ⟨Q,2,none⟩=some (.int .i64 E)
theorem VW.next{w:World}{C Q:Nat}{A B E:Int}{v v':World}(h:VW w C Q A B E v)(k:Below C v v'):VW w C Q A B E v':=by
 have c1:∀ {a:Addr} {u:Value},a.block<C->v.cell? a=some u->v'.cell? a=some u:=fun ha hu=>(k.cell ha).trans hu;exact⟨h.bel.trans (k.mono h.hC),h.hC,h.hQ,gH h.le k.size,c1 h.hQ h.g0,c1 h.hQ h.g1,c1 h.hQ h.g2⟩
theorem MG(i:Am)(w:World):Calls prog 61 #[Dz i] w fun e w'=>∃v,e=.returned v/\w'.ownsRow w.heap.size 3 1 v (Ao i (A5 i.op)).length (BK (Ao i (A5 i.op)))/\Below w.heap.size w w':=by
 rcases KK i.op (w.alloc (.cells #[.int .i64 i.op,.int .i64 i.d,.int .i64 i.a,.int .i64 i.b,.int .i64 i.c,.int .i64 i.n,.int .u32 i.bits] 55))with⟨hk,hc⟩|⟨hk,a,b,c,d,e,ht,hc⟩
 .rw[FU i.op hk,show Ao i ⟨0,0,0,0,0⟩=[] from rfl];obtain⟨op,D,A,B,E,n,bt⟩:=i;unfold Dz;simp only at hc hk |-;have HK:Hid (Calls prog 62 #[.int .i64 op] (w.alloc (.cells #[.int .i64 op,.int .i64 D,.int .i64 A,.int .i64 B,.int .i64 E,.int .i64 n,.int .u32 bt] 55)) fun e w'=>e=.returned (.tuple #[.string ⟨#[]⟩,.bool false])/\w'=w.alloc (.cells #[.int .i64 op,.int .i64 D,.int .i64 A,.int .i64 B,.int .i64 E,.int .i64 n,.int .u32 bt] 55)):=hc;clear hc;go_enter func61,ntmps61;go_wp2_with(go_at_call 62;refine HK.mono ?_;rintro e w1 ⟨rfl,rfl⟩)
  go_loopw [3,7] (fun lv iv wr=>lv=.slice none 0 0/\iv=.int .i64 0/\Below w.heap.size w wr) (fun _ iv _=>0)
  case atStart=>exact⟨rfl,rfl,bel (A0 _ _) (A0 _ _)⟩
  case round=>
   obtain⟨rfl,rfl,hb⟩:=hrel;go_wp2;go_ret;exact⟨_,rfl,World.ownsRow_nil _ _ _ 1,hb⟩
 .rw[FN];have h1:=UI b _ ht.b;have h2:=UI c _ ht.c;have h3:=UI d _ ht.d;obtain⟨i0,hi0,hz0,hz1,hz3⟩:=info_parts EC;obtain⟨r,hr⟩:=gA (A5 i.op)
  rw[hr]at h1 h2 h3 |-;obtain⟨L0,L1,L2,L3,L4⟩:=r;obtain⟨op,D,A,B,E,n,bt⟩:=i;unfold Dz;simp only at hc h1 h2 h3 |-;obtain⟨R,hR⟩:=gA ((DA L1 A++DA L2 B)++DA L3 E)
  rw[hR];have HR:Hid ((DA L1 A++DA L2 B)++DA L3 E=R):=hR;have HK:Hid (∀w,Calls prog 62 #[.int .i64 op] w fun x w'=>x=.returned (.tuple #[.string ⟨#[a,b,c,d,e]⟩,.bool true])/\w'=w):=hc;clear hc ht hr hR hk;go_enter func61,ntmps61;go_wp2_with(go_at_call 62;refine(HK.out _).mono ?_;rintro e w1 ⟨rfl,rfl⟩);have HF1:Hid (VW w (w.heap.size+1+1) (w.heap.size+1) A B E ((w.alloc (.cells #[.int .i64 op,.int .i64 D,.int .i64 A,.int .i64 B,.int .i64 E,.int .i64 n,.int .u32 bt] 55)).alloc (.cells #[.int .i64 A,.int .i64 B,.int .i64 E] 3))):=
   ⟨bel (A0 _ _) (A0 _ _),oM,oM,sM,sG,sG,sG⟩
  obtain⟨W,hW⟩:=gA ((w.alloc (.cells #[.int .i64 op,.int .i64 D,.int .i64 A,.int .i64 B,.int .i64 E,.int .i64 n,.int .u32 bt] 55)).alloc (.cells #[.int .i64 A,.int .i64 B,.int .i64 E] 3))
  rw[hW]at HF1 |-;obtain⟨Q,hQ⟩:=gA (w.heap.size+1)
  rw[hQ]at HF1;try rw[hQ]
  clear hW
  go_loopw [3,7] (fun lv iv wr=>VW w (Q+1) Q A B E wr/\∃ (j:Nat) (l:List Int),j<=3/\iv=.int .i64 j/\l.length<=j/\Hid (wr.ownsRow (Q+1) 3 1 lv l.length (BK l))/\Hid ((j=0->l=[])/\(j=1->l=DA L1 A)/\(j=2->l=DA L1 A++DA L2 B)/\(j=3->l=(DA L1 A++DA L2 B)++DA L3 E))) (fun _ iv _=>3-(intOf iv).toNat)
  case atStart=>exact⟨HF1.out,0,[],oM,rfl,sM,World.ownsRow_nil _ _ _ 1,⟨fun _=>rfl,fun h=>absurd h oM,fun h=>absurd h oM,fun h=>absurd h oM⟩⟩
  case round=>
   clear HF1 HK;obtain⟨hF,j,l,hj,rfl,hll,HO,HL⟩:=hrel;have HF:Hid (VW w (Q+1) Q A B E wr):=hF;have hGw:=hF.le;have hn1:Q≠wr.heap.size:=oM;obtain rfl|rfl|rfl|rfl:j=0\/j=1\/j=2\/j=3:=oM
   .have g0:=hF.g0;have f0:=kc (A0 wr (.cells #[.int .i64 A] 3)) g0;have hl0:=HL.1 rfl;have ix:∀w,(Instr.index 9 (.string ⟨#[a,b,c,d,e]⟩) (.int .i64 1)).run prog w=.ok (.int .u8 (b.toNat:Int)) w:=fun w=>by simp[Instr.index,run_underlying underlying9,asIntOf,go_sem];rfl
    have hq:=h1;clear hF h1 h2 h3;by_cases hz:L1=0
    .have hz':(!(L1==0))=false:=by simp[hz]
     rw[hz']at hq;have hq2:((b.toNat:Int)==45)=true:=by simpa[bne]using hq
     have HZ:Hid (L1=0):=hz;clear hz;go_wp2;go_roundw
     case rel=>exact⟨HF.out,1,l,oM,by first|rfl|go_num,oM,HO,⟨fun h=>absurd h oM,fun _=>by rw[hl0];unfold DA;simp[HZ.out],fun h=>absurd h oM,fun h=>absurd h oM⟩⟩
     case measure=>simp[intOf]
    .have hz':(!(L1==0))=true:=by simp[hz]
     rw[hz']at hq;have hq2:((b.toNat:Int)==45)=false:=by simpa[bne]using hq
     have HZ:Hid (¬L1=0):=hz;clear hz;go_wp2_with(first
      |(at_builtin;refine wpList_append_own_at _ rfl _ _ 58 rfl (Q+1) 3 i0 _ 1 8 underlying58 hi0 hz0 hz1 hz3 rfl dE _ l.length (BK l) rfl (World.ownsRow.alloc HO.out _) ⟨wr.heap.size,0,none⟩ 1 1 [.int .i64 A] rfl rfl (World.news_of_block (cs:=#[.int .i64 A]) (t:=3) (fr:=(0,0)) (heap_alloc_new wr _)) Sz mL oM sO ?_;intro v' w3 hown3 hgrow hnil hat;have HO3:Hid (w3.ownsRow (Q+1) 3 1 v' (l.length+1) (BK l++[.int .i64 A])):=hown3;have HB3:Hid (Below (Q+1) wr w3):=(Below.alloc (Below.refl _ _) hGw _).grown hgrow sO (fun q e=>(HO.lt q e).1);clear hown3 hgrow hnil hat))
     go_roundw
     case rel=>exact⟨HF.next HB3.out,1,l++[A],oM,by first|rfl|go_num,sO,by show _;rw[List.length_append,BY];exact HO3.out,⟨fun h=>absurd h oM,fun _=>by rw[hl0,show DA L1 A=[A]from if_neg HZ.out];try rfl,fun h=>absurd h oM,fun h=>absurd h oM⟩⟩
     case measure=>simp[intOf]
   .have g0:=hF.g1;have f0:=kc (A0 wr (.cells #[.int .i64 B] 3)) g0;have hl0:=HL.2.1 rfl;have ix:∀w,(Instr.index 9 (.string ⟨#[a,b,c,d,e]⟩) (.int .i64 2)).run prog w=.ok (.int .u8 (c.toNat:Int)) w:=fun w=>by simp[Instr.index,run_underlying underlying9,asIntOf,go_sem];rfl
    have hq:=h2;clear hF h1 h2 h3;by_cases hz:L2=0
    .have hz':(!(L2==0))=false:=by simp[hz]
     rw[hz']at hq;have hq2:((c.toNat:Int)==45)=true:=by simpa[bne]using hq
     have HZ:Hid (L2=0):=hz;clear hz;go_wp2;go_roundw
     case rel=>exact⟨HF.out,2,l,oM,by first|rfl|go_num,oM,HO,⟨fun h=>absurd h oM,fun h=>absurd h oM,fun _=>by rw[hl0];unfold DA;simp[HZ.out],fun h=>absurd h oM⟩⟩
     case measure=>simp[intOf]
    .have hz':(!(L2==0))=true:=by simp[hz]
     rw[hz']at hq;have hq2:((c.toNat:Int)==45)=false:=by simpa[bne]using hq
     have HZ:Hid (¬L2=0):=hz;clear hz;go_wp2_with(first
      |(at_builtin;refine wpList_append_own_at _ rfl _ _ 58 rfl (Q+1) 3 i0 _ 1 8 underlying58 hi0 hz0 hz1 hz3 rfl dE _ l.length (BK l) rfl (World.ownsRow.alloc HO.out _) ⟨wr.heap.size,0,none⟩ 1 1 [.int .i64 B] rfl rfl (World.news_of_block (cs:=#[.int .i64 B]) (t:=3) (fr:=(0,0)) (heap_alloc_new wr _)) Sz mL oM sO ?_;intro v' w3 hown3 hgrow hnil hat;have HO3:Hid (w3.ownsRow (Q+1) 3 1 v' (l.length+1) (BK l++[.int .i64 B])):=hown3;have HB3:Hid (Below (Q+1) wr w3):=(Below.alloc (Below.refl _ _) hGw _).grown hgrow sO (fun q e=>(HO.lt q e).1);clear hown3 hgrow hnil hat))
     go_roundw
     case rel=>exact⟨HF.next HB3.out,2,l++[B],oM,by first|rfl|go_num,sO,by show _;rw[List.length_append,BY];exact HO3.out,⟨fun h=>absurd h oM,fun h=>absurd h oM,fun _=>by rw[hl0,show DA L2 B=[B]from if_neg HZ.out];try rfl,fun h=>absurd h oM⟩⟩
     case measure=>simp[intOf]
   .have g0:=hF.g2;have f0:=kc (A0 wr (.cells #[.int .i64 E] 3)) g0;have hl0:=HL.2.2.1 rfl;have ix:∀w,(Instr.index 9 (.string ⟨#[a,b,c,d,e]⟩) (.int .i64 3)).run prog w=.ok (.int .u8 (d.toNat:Int)) w:=fun w=>by simp[Instr.index,run_underlying underlying9,asIntOf,go_sem];rfl
    have hq:=h3;clear hF h1 h2 h3;by_cases hz:L3=0
    .have hz':(!(L3==0))=false:=by simp[hz]
     rw[hz']at hq;have hq2:((d.toNat:Int)==45)=true:=by simpa[bne]using hq
     have HZ:Hid (L3=0):=hz;clear hz;go_wp2;go_roundw
     case rel=>exact⟨HF.out,3,l,oM,by first|rfl|go_num,oM,HO,⟨fun h=>absurd h oM,fun h=>absurd h oM,fun h=>absurd h oM,fun _=>by rw[hl0];unfold DA;simp[HZ.out]⟩⟩
     case measure=>simp[intOf]
    .have hz':(!(L3==0))=true:=by simp[hz]
     rw[hz']at hq;have hq2:((d.toNat:Int)==45)=false:=by simpa[bne]using hq
     have HZ:Hid (¬L3=0):=hz;clear hz;go_wp2_with(first
      |(at_builtin;refine wpList_append_own_at _ rfl _ _ 58 rfl (Q+1) 3 i0 _ 1 8 underlying58 hi0 hz0 hz1 hz3 rfl dE _ l.length (BK l) rfl (World.ownsRow.alloc HO.out _) ⟨wr.heap.size,0,none⟩ 1 1 [.int .i64 E] rfl rfl (World.news_of_block (cs:=#[.int .i64 E]) (t:=3) (fr:=(0,0)) (heap_alloc_new wr _)) Sz mL oM sO ?_;intro v' w3 hown3 hgrow hnil hat;have HO3:Hid (w3.ownsRow (Q+1) 3 1 v' (l.length+1) (BK l++[.int .i64 E])):=hown3;have HB3:Hid (Below (Q+1) wr w3):=(Below.alloc (Below.refl _ _) hGw _).grown hgrow sO (fun q e=>(HO.lt q e).1);clear hown3 hgrow hnil hat))
     go_roundw
     case rel=>exact⟨HF.next HB3.out,3,l++[E],oM,by first|rfl|go_num,sO,by show _;rw[List.length_append,BY];exact HO3.out,⟨fun h=>absurd h oM,fun h=>absurd h oM,fun h=>absurd h oM,fun _=>by rw[hl0,show DA L3 E=[E]from if_neg HZ.out];try rfl⟩⟩
     case measure=>simp[intOf]
   .exact Z0
theorem FS(t:Ty)(p:Option Addr)(n c:Nat)(hn:n<=140737488351232)(w:World):Calls prog 28 #[DB t,.slice p n c] w fun e w'=>e=.returned (.bool (Ak t n))/\Below w.heap.size w w':=by
 obtain⟨K,P⟩:=t;unfold Ak DB Ab;simp only;by_cases h1:K=1
 .subst h1;rw[if_pos (Or.inl rfl)];exact XK
 .by_cases h2:K=2
  .subst h2;rw[if_pos (Or.inr rfl)];exact XK
  .rw[if_neg (fun e=>e.elim h1 h2)];have h1':(K==1)=false:=by simpa using h1
   have h2':(K==2)=false:=by simpa using h2
   by_cases h3:K=3
   .subst h3;rw[if_pos rfl];by_cases h:0<=P
    all_goals
     go_enter func28,ntmps28;go_wp2;go_ret;exact⟨A6 (by simp[h];try omega),A0 _ _⟩
   .rw[if_neg h3];have h3':(K==3)=false:=by simpa using h3
    clear h1 h2 h3;exact XK
theorem KY(v0 v1 v2 v3:Value)(c:Cd)(hk:AZ c)(n:Int)(w:World)(hv:Cy w v0 v1 v2 v3 c):
 Calls prog 107 #[.agg #[v0,v1,v2,v3],.int .i64 n] w fun e w'=>e=.returned (.tuple #[DB (A7 c.regs n),.bool (Ab n c.regs.length)])/\Below w.heap.size w w':=by
 have HB:=hk.regsL;have hr:=hv.regs;obtain⟨p,q,rfl,hrr⟩:=hv.regs;clear hv hk;by_cases h0:0<=n
 .by_cases h1:n<(c.regs.length:Int)
  .obtain⟨k,rfl⟩:∃k:Nat,n=(k:Int):=⟨n.toNat,oM⟩
   have hk:k<c.regs.length:=oM;have e:A7 c.regs (k:Int)=c.regs[k]:=E3 rfl hk;have e2:Ab (k:Int) c.regs.length=true:=CD.2 ⟨oM,oM⟩;rw[e,e2];obtain⟨lb,lo,rfl,hc⟩:=hr.at hk;obtain⟨⟨K,P⟩,ht⟩:∃t:Ty,c.regs[k]=t:=⟨_,rfl⟩
   rw[ht]at hc |-;have y0:w.cell? ⟨lb,lo+k*2,none⟩=some (.int .i64 K):=hc.at 0 rfl;have y1:w.cell? ⟨lb,lo+k*2+1,none⟩=some (.int .i64 P):=hc.at 1 rfl;have hlb:lb≠w.heap.size:=by have:=A3 y0;simp only at this;omega
   obtain⟨N,hN⟩:=gA (c.regs.length)
   rw[hN]at hk HB |-;clear hr hrr hc ht e e2 h0 h1 hN;have g0:∀o o',((w.alloc o).alloc o').cell? ⟨lb,lo+k*2,none⟩=some (.int .i64 K):=fun o o'=>kc (bel (A0 _ _) (A0 _ _)) y0;have g1:∀o o',((w.alloc o).alloc o').cell? ⟨lb,lo+k*2+1,none⟩=some (.int .i64 P):=fun o o'=>kc (bel (A0 _ _) (A0 _ _)) y1;unfold DB;go_enter func107,ntmps107;go_wp2;refine bodyPost_ret XP rfl ?_;exact PP
  .have e2:Ab n c.regs.length=false:=by unfold Ab;simp;omega
   have e:A7 c.regs n=⟨0,0⟩:=by unfold A7;rw[e2];rfl
   rw[e,e2];obtain⟨N,hN⟩:=gA (c.regs.length)
   rw[hN]at h1 HB |-;clear hr hrr e e2 hN;unfold DB;go_enter func107,ntmps107;go_wp2;refine bodyPost_ret XP rfl ?_;exact PP
 .have e2:Ab n c.regs.length=false:=by unfold Ab;simp;omega
  have e:A7 c.regs n=⟨0,0⟩:=by unfold A7;rw[e2];rfl
  rw[e,e2];obtain⟨N,hN⟩:=gA (c.regs.length)
  rw[hN]at HB |-;clear hr hrr e e2 hN;unfold DB;go_enter func107,ntmps107;go_wp2;refine bodyPost_ret XP rfl ?_;exact PP
def Fb(b:Int)(t d:Ty):Bool:=
 if b=110 then t.kind==1 else if b=119 then t.kind==2 else if b=118 then t.kind==3 else if b=100 then t.kind==1||t.kind==3
 else if b=120 then t.kind==1||decide (t=d)else if b=99 then decide (t=d)||(t.kind==1&&d.kind==3)else true
def Af(rs:List Ty)(b n:Int)(d:Ty):Bool:=if b=45 then n==0 else Ab n rs.length&&Fb b (A7 rs n) d
theorem E6(v0 v1 v2 v3:Value)(c:Cd)(hk:AZ c)(b n:Int)(d:Ty)(hb:b=45\/b=110\/b=119\/b=118\/b=100\/b=120\/b=99\/b=97)(w:World)(hv:Cy w v0 v1 v2 v3 c):
 Calls prog 86 #[.agg #[v0,v1,v2,v3],.int .u8 b,.int .i64 n,DB d] w fun e w'=>e=.returned (.bool (Af c.regs b n d))/\Below w.heap.size w w':=by
 have KT:Hid (∀v,Below w.heap.size w v->Calls prog 107 #[.agg #[v0,v1,v2,v3],.int .i64 n] v fun e w'=>e=.returned (.tuple #[DB (A7 c.regs n),.bool (Ab n c.regs.length)])/\Below v.heap.size v w'):=fun v h=>KY v0 v1 v2 v3 c hk n v (hv.below h);unfold Af;obtain⟨X,hX⟩:=gA (Ab n c.regs.length)
 obtain⟨⟨K,P⟩,ht⟩:∃t:Ty,A7 c.regs n=t:=⟨_,rfl⟩
 rw[hX,ht]at KT |-;clear hX ht hv hk;obtain⟨dk,dp⟩:=d;unfold DB at KT |-;simp only at KT |-;by_cases h45:b=45
 .subst h45;rw[if_pos rfl];go_enter func86,ntmps86;go_wp2;go_ret;exact PP
 .rw[if_neg h45];have h45':(b==45)=false:=by simpa using h45
  cases X
  .rw[Bool.false_and];clear hb h45;go_enter func86,ntmps86;go_wp2_with(go_at_call 107;(with_reducible refine(KT.out _ (bel (A0 _ _) (A0 _ _))).mono ?_);rintro e w1 ⟨rfl,hb1⟩;have f0:∀o,(w1.alloc o).cell? ⟨w.heap.size+1,0,none⟩=some (.int .i64 dk):=(fun o=>kc (bel hb1 (A0 _ _)) sG);have f1:∀o,(w1.alloc o).cell? ⟨w.heap.size+1,1,none⟩=some (.int .i64 dp):=(fun o=>kc (bel hb1 (A0 _ _)) sG);have HB1:Hid _:=hb1;clear hb1);go_ret;exact⟨rfl,bel (bel (A0 _ _) (A0 _ _)) (bel HB1.out (A0 _ _))⟩
  .rw[Bool.true_and];rcases hb with rfl|rfl|rfl|rfl|rfl|rfl|rfl|rfl
   .exact absurd rfl h45
   all_goals clear h45 h45'
   all_goals
    cases h1:(K==1)
    all_goals
     by_cases hkd:K=dk
     .subst hkd;by_cases hpd:P=dp
      .subst hpd;go_enter func86,ntmps86;go_wp2_with(go_at_call 107;(with_reducible refine(KT.out _ (bel (A0 _ _) (A0 _ _))).mono ?_);rintro e w1 ⟨rfl,hb1⟩;have f0:∀o,(w1.alloc o).cell? ⟨w.heap.size+1,0,none⟩=some (.int .i64 K):=(fun o=>kc (bel hb1 (A0 _ _)) sG);have f1:∀o,(w1.alloc o).cell? ⟨w.heap.size+1,1,none⟩=some (.int .i64 P):=(fun o=>kc (bel hb1 (A0 _ _)) sG);have HB1:Hid _:=hb1;clear hb1);exact XI
      .go_enter func86,ntmps86;go_wp2_with(go_at_call 107;(with_reducible refine(KT.out _ (bel (A0 _ _) (A0 _ _))).mono ?_);rintro e w1 ⟨rfl,hb1⟩;have f0:∀o,(w1.alloc o).cell? ⟨w.heap.size+1,0,none⟩=some (.int .i64 K):=(fun o=>kc (bel hb1 (A0 _ _)) sG);have f1:∀o,(w1.alloc o).cell? ⟨w.heap.size+1,1,none⟩=some (.int .i64 dp):=(fun o=>kc (bel hb1 (A0 _ _)) sG);have HB1:Hid _:=hb1;clear hb1);exact XI
     .go_enter func86,ntmps86;go_wp2_with(go_at_call 107;(with_reducible refine(KT.out _ (bel (A0 _ _) (A0 _ _))).mono ?_);rintro e w1 ⟨rfl,hb1⟩;have f0:∀o,(w1.alloc o).cell? ⟨w.heap.size+1,0,none⟩=some (.int .i64 dk):=(fun o=>kc (bel hb1 (A0 _ _)) sG);have f1:∀o,(w1.alloc o).cell? ⟨w.heap.size+1,1,none⟩=some (.int .i64 dp):=(fun o=>kc (bel hb1 (A0 _ _)) sG);have HB1:Hid _:=hb1;clear hb1);exact XI
theorem Dc(a:Int)(h0:0<=a)(h1:a<4294967296)(w:World):Calls prog 58 #[.int .u32 a] w fun e w'=>e=.returned (.bool (BN a))/\Below w.heap.size w w':=by
 have hc:BN a=(A9 a==a):=by unfold BN A9;cases nan a<;>rw[Bool.eq_iff_iff]<;>simp
 rw[hc];have HK:Hid (∀w,Calls prog 66 #[.int .i64 a] w fun e w'=>e=.returned (.int .i64 (A9 a))/\Below w.heap.size w w'):=EJ a h0 h1;have hw:IntKind.i64.wrap a=a:=by rw[IntKind.wrap_i64];omega
 clear hc;obtain⟨x,hx⟩:=gA (A9 a)
 rw[hx]at HK |-;clear hx;go_enter func58,ntmps58;go_wp2_with(go_at_call 66;refine(HK.out _).mono ?_;rintro e w1 ⟨rfl,hb1⟩;have HB1:Hid _:=hb1;clear hb1);go_ret;exact⟨rfl,HB1.out⟩
theorem JB(s:Sl)(h0:0<=s.bits)(h1:s.bits<4294967296)(p:Option Addr)(n c:Nat)(hn:n<=140737488351232)(w:World):
 Calls prog 29 #[VK s,.slice p n c] w fun e w'=>e=.returned (.bool (AG s n))/\Below w.heap.size w w':=by
 have HK:Hid (∀w,Calls prog 58 #[.int .u32 s.bits] w fun e w'=>e=.returned (.bool (BN s.bits))/\Below w.heap.size w w'):=Dc s.bits h0 h1;have HT:Hid (∀w,Calls prog 28 #[DB s.ty,.slice p n c] w fun e w'=>e=.returned (.bool (Ak s.ty n))/\Below w.heap.size w w'):=FS s.ty p n c hn;obtain⟨⟨K,P⟩,Q,B,I⟩:=s;unfold AG DO VK Cs;unfold DB at HT;simp only at HK HT h0 h1 |-;obtain⟨X,hX⟩:=gA (BN B)
 obtain⟨Y,hY⟩:=gA (Ak ⟨K,P⟩ n)
 rw[hX]at HK |-;rw[hY]at HT |-;clear hX hY;cases Y
 .rw[Bool.false_and];exact Yj
 .rw[Bool.true_and];by_cases h2:K=2
  .subst h2;rw[if_pos rfl];cases hb:(B==0)
   .have hb':(B != 0)=true:=by simpa using hb
    exact Yk
   .by_cases hi:0<=I
    all_goals
     exact Yk
  .rw[if_neg h2];have h2':(K==2)=false:=by simpa using h2
   clear h2;cases hi:(I==0)
   all_goals
    exact Yj
instance:DecidableEq Bd:=fun a b=>by
 cases a;cases b
 simp only[Bd.mk.injEq];exact inferInstanceAs (Decidable (_/\_/\_))

theorem QR:∀x:Bd,∀u∈Bh x,u.oneCell'=true:=fun x u hu=>by simp[Bh]at hu;rcases hu with rfl|rfl|rfl<;>rfl
theorem UH:∀x:Ty,∀u∈PT x,u.oneCell'=true:=fun x u hu=>by simp[PT]at hu;rcases hu with rfl|rfl<;>rfl
theorem Uz:∀x:Sl,∀u∈Py x,u.oneCell'=true:=fun x u hu=>by simp[Py]at hu;rcases hu with rfl|rfl|rfl|rfl|rfl<;>rfl
theorem ON:(prog.info? 63).map (fun i=>(i.zero,i.size,i.bytes))=some (some (.agg #[.int .i64 0,.int .i64 0]),2,16):=kR
theorem OM:(prog.info? 65).map (fun i=>(i.zero,i.size,i.bytes))=some (some (.agg #[.int .i64 0,.int .i64 0,.bool false,.int .u32 0,.int .i64 0]),5,32):=kR
theorem SQ{l:List Bd}{v:Value}{w:World}(h:Bj 3 Bh w v l)(hl:l.length*32<=140737488355328)(ty:TypeId):
 ∃v' w',(Builtin.append_ #[22,22] ty #[.slice none 0 0,v]).run prog w=.ok v' w'/\Below w.heap.size w w'/\w'.ownsRow w.heap.size 73 3 v' l.length (AT Bh l):=by
 obtain⟨i0,hi0,hz0,hz1,hz2⟩:=info_parts Md;exact DC dE FL QR underlying22 hi0 hz0 hz1 hz2 rfl h mL hl ty
theorem Vc{l:List Ty}{v:Value}{w:World}(h:Bj 2 PT w v l)(hl:l.length*16<=140737488355328)(ty:TypeId):
 ∃v' w',(Builtin.append_ #[23,23] ty #[.slice none 0 0,v]).run prog w=.ok v' w'/\Below w.heap.size w w'/\w'.ownsRow w.heap.size 63 2 v' l.length (AT PT l):=by
 obtain⟨i0,hi0,hz0,hz1,hz2⟩:=info_parts ON;exact DC dE GY UH underlying23 hi0 hz0 hz1 hz2 rfl h mL hl ty
theorem Vb{l:List Sl}{v:Value}{w:World}(h:Bj 5 Py w v l)(hl:l.length*32<=140737488355328)(ty:TypeId):
 ∃v' w',(Builtin.append_ #[24,24] ty #[.slice none 0 0,v]).run prog w=.ok v' w'/\Below w.heap.size w w'/\w'.ownsRow w.heap.size 65 5 v' l.length (AT Py l):=by
 obtain⟨i0,hi0,hz0,hz1,hz2⟩:=info_parts OM;exact DC dE JE Uz underlying24 hi0 hz0 hz1 hz2 rfl h mL hl ty
def f4(a b c d:Value)(j:Nat):Value:=if j=0 then a else if j=1 then b else if j=2 then c else d
structure CW(w:World)(v0 v1 v2 v3 x0 x1 x2 x3:Value)(v:World):Prop where
 bel:Below w.heap.size w v
 c:Ai v w.heap.size 0 [v0,v1,v2,v3]
 r:v.rowIs (w.heap.size+1) 27 4 (f4 (.slice none 0 0) (.slice none 0 0) (.slice none 0 0) (.slice none 0 0))
 d:v.rowIs (w.heap.size+1+1) 27 4 (f4 x0 x1 x2 x3)
theorem CW.app{w:World}{v0 v1 v2 v3 x0 x1 x2 x3:Value}{v v':World}(h:CW w v0 v1 v2 v3 x0 x1 x2 x3 v)(k:Below v.heap.size v v'):CW w v0 v1 v2 v3 x0 x1 x2 x3 v':=
 ⟨Go.Proofs.YtheanilpbnencaaGreat.bel h.bel k,h.c.below k,h.r.of_block (k.block _ h.r.lt),h.d.of_block (k.block _ h.d.lt)⟩
theorem CW.put{w:World}{v0 v1 v2 v3 x0 x1 x2 x3 y0 y1 y2 y3:Value}{v:World}(h:CW w v0 v1 v2 v3 x0 x1 x2 x3 v)(i:Nat)(x:Value)(e:∀j,j<4->(if j=i then x else f4 x0 x1 x2 x3 j)=f4 y0 y1 y2 y3 j):CW w v0 v1 v2 v3 y0 y1 y2 y3 (v.setCell ⟨w.heap.size+1+1,i,none⟩ x):=by
 have nb:∀b,b≠w.heap.size+1+1->(v.setCell ⟨w.heap.size+1+1,i,none⟩ x).heap[b]? =v.heap[b]? :=fun b hb=>gE hb;exact⟨h.bel.setCell V9 _,h.c.of_block (nb _ oM),h.r.of_block (nb _ oM),(h.d.set i x).congr e⟩
theorem CW.start(w:World)(v0 v1 v2 v3:Value):CW w v0 v1 v2 v3 (.slice none 0 0) (.slice none 0 0) (.slice none 0 0) (.slice none 0 0) (((w.alloc (.cells #[v0,v1,v2,v3] 27)).alloc (.cells #[.slice none 0 0,.slice none 0 0,.slice none 0 0,.slice none 0 0] 27)).alloc (.cells #[.slice none 0 0,.slice none 0 0,.slice none 0 0,.slice none 0 0] 27)):=by
 have q:∀u:World,(u.alloc (.cells #[.slice none 0 0,.slice none 0 0,.slice none 0 0,.slice none 0 0] 27)).rowIs u.heap.size 27 4 (f4 (.slice none 0 0) (.slice none 0 0) (.slice none 0 0) (.slice none 0 0)):=fun u=>World.rowIs_alloc u #[.slice none 0 0,.slice none 0 0,.slice none 0 0,.slice none 0 0] 27 _ (fun i hi=>by
  have hi':i<4:=hi;obtain rfl|rfl|rfl|rfl:i=0\/i=1\/i=2\/i=3:=oM
  all_goals rfl)
 have h1:=q (w.alloc (.cells #[v0,v1,v2,v3] 27));have h2:=q ((w.alloc (.cells #[v0,v1,v2,v3] 27)).alloc (.cells #[.slice none 0 0,.slice none 0 0,.slice none 0 0,.slice none 0 0] 27));have s1:(w.alloc (.cells #[v0,v1,v2,v3] 27)).heap.size=w.heap.size+1:=sM;have s2:((w.alloc (.cells #[v0,v1,v2,v3] 27)).alloc (.cells #[.slice none 0 0,.slice none 0 0,.slice none 0 0,.slice none 0 0] 27)).heap.size=w.heap.size+1+1:=sM;rw[s1]at h1;rw[s2]at h2;refine⟨Go.Proofs.YtheanilpbnencaaGreat.bel (Go.Proofs.YtheanilpbnencaaGreat.bel (A0 _ _) (A0 _ _)) (A0 _ _),fun j hj=>?_,h1.alloc _,h2⟩;have hj':j<4:=hj;obtain rfl|rfl|rfl|rfl:j=0\/j=1\/j=2\/j=3:=oM
 all_goals simp[go_sem]
def Up(E:Nat)(v v':World):Prop:=v.heap.size<=v'.heap.size/\∀b,E<=b->b<v.heap.size->v'.heap[b]? =v.heap[b]?
theorem Up.of{E:Nat}{v v':World}(k:Below v.heap.size v v'):Up E v v':=⟨k.size,fun b _ hb=>k.block b hb⟩
theorem Up.set{E:Nat}(v:World){D:Nat}(hD:D<E)(i:Nat)(x:Value):Up E v (v.setCell ⟨D,i,none⟩ x):=⟨sM,fun b hb _=>gE (by show b≠D;omega)⟩
theorem Up.trans{E:Nat}{a b c:World}(h:Up E a b)(k:Up E b c):Up E a c:=⟨gH h.1 k.1,fun x hx hl=>(k.2 x hx (Nat.lt_of_lt_of_le hl h.1)).trans (h.2 x hx hl)⟩
theorem Up.own{E B:Nat}{v v':World}{t:TypeId}{k n:Nat}{u:Value}{xs:List Value}(h:Up E v v')(ho:v.ownsRow B t k u n xs)(hB:E<=B):v'.ownsRow B t k u n xs:=Az ho fun g hg=>h.2 g (gH hB (ho.lt g hg).1) (ho.lt g hg).2
structure Wb(B:Nat)(w:World)(u0 u1 u2 u3:Value)(c:Cd):Prop where
 sign:w.ownsRow B 73 3 u0 c.sign.length (AT Bh c.sign)
 regs:w.ownsRow B 63 2 u1 c.regs.length (AT PT c.regs)
 slots:w.ownsRow B 65 5 u2 c.slots.length (AT Py c.slots)
 list:w.ownsRow B 55 7 u3 c.list.length (AT EW c.list)
structure W9(c:Cd):Prop where
 s:c.sign.length*32<=140737488351232
 r:c.regs.length*16<=140737488351232
 l:c.slots.length*32<=140737488351232
 i:c.list.length*56<=140737488351232
end Go.Proofs.YtheanilpbnencaaGreat
