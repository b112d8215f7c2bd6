import Derived.Test.YtjlpkjblkllfbaaGreatDoorOwn1
import Derived.Test.YtjlpkjblkllfbaaGreatDoorOwn5
import Derived.ChangeKeysEq
import Derived.Deep.CutBlock
import Derived.Test.YtjlpkjblkllfbaaGreatDoorOwn8
namespace Go.Proofs.YtjlpkjblkllfbaaGreatDoor
open Go.RowKit Go.Proofs.Tryz
set_option linter.all false
set_option maxRecDepth 100000
set_option maxHeartbeats 16000000
structure MW(w:World)(H G C b o:Nat)(vo:Value)(L0 L1 L2 L3 L4 op:Int)(X:Bool)(P A:Int)(v:World):Prop where
 bel:Below w.heap.size w v
 r0:v.cell? ⟨w.heap.size,0,none⟩=some (.int .i64 L0)
 r1:v.cell? ⟨w.heap.size,1,none⟩=some (.int .i64 L1)
 r2:v.cell? ⟨w.heap.size,2,none⟩=some (.int .i64 L2)
 r3:v.cell? ⟨w.heap.size,3,none⟩=some (.int .i64 L3)
 r4:v.cell? ⟨w.heap.size,4,none⟩=some (.int .i64 L4)
 m0:v.cell? ⟨H,0,none⟩=some (.bool X)
 m1:v.cell? ⟨H,1,none⟩=some (.int .i64 P)
 g0:v.cell? ⟨G,0,none⟩=some (.pointer (some ⟨C,0,none⟩))
 g3:v.cell? ⟨G,3,none⟩=some vo
 e0:v.cell? ⟨b,o,none⟩=some (.int .i64 op)
theorem MW.next{w:World}{H G C b o:Nat}{vo:Value}{L0 L1 L2 L3 L4 op:Int}{X:Bool}{P A:Int}{v v':World}(h:MW w H G C b o vo L0 L1 L2 L3 L4 op X P A v)(k:Below v.heap.size v v'):MW w H G C b o vo L0 L1 L2 L3 L4 op X P A v':=
 ⟨Go.Proofs.YtjlpkjblkllfbaaGreatDoor.bel h.bel k,kc k h.r0,kc k h.r1,kc k h.r2,kc k h.r3,kc k h.r4,kc k h.m0,kc k h.m1,kc k h.g0,kc k h.g3,kc k h.e0⟩
theorem J2(E G C n gi:Nat)(vs vo:Value)(s:Wk)(v0 v1 v2 v3:Value)(c:Cd)(hk:BE c)(b o:Nat)(i:Ax)(r:Rw)(w:World)(h:WS E G C n gi vs vo w s)(hn:s.opens.length<=64)(hc:BM w C v0 v1 v2 v3 c)(hi:Aq w b o (CJ i)):
 Calls prog 58 #[.pointer (some ⟨G,0,none⟩),.pointer (some ⟨b,o,none⟩),CA r] w fun e w'=>e=.returned (.bool (AO c s i r))/\Below w.heap.size w w':=by
 have KI:=Hs E G C n gi vs vo s;have KM:=fun w h k=>Fg C v0 v1 v2 v3 c hk b o i r w h k;have KL:=Lr i.op;have HC0:Hid (BM w C v0 v1 v2 v3 c):=hc;have HI0:Hid (Aq w b o (CJ i)):=hi;have HS0:Hid (WS E G C n gi vs vo w s):=h;have hlen:∃p q,vo=.slice p s.opens.length q:=Ac h.opn;obtain⟨p,q,rfl⟩:=hlen;have e0:=hi.at 0 rfl;rw[Nat.add_zero]at e0;have hop:(!s.opens.isEmpty)=false->AP s=false:=fun hh=>by
  unfold AP;cases hO:s.opens with
  |nil=>rfl
  |cons b r=>rw[hO]at hh;simp at hh
 unfold AO;obtain⟨X,hX⟩:=gA (AP s)
 obtain⟨Y,hY⟩:=gA ((!s.opens.isEmpty))
 obtain⟨P,hP⟩:=gA (C9 s)
 obtain⟨Z,hZ⟩:=gA (C5 i.op)
 obtain⟨M,hM⟩:=gA (AF c.regs i r)
 obtain⟨N,hN⟩:=gA (s.opens.length)
 obtain⟨op,hopp⟩:∃x,i.op=x:=⟨_,rfl⟩
 rw[hX,hY]at hop;simp only[hX,hY,hP,hN]at KI |-;simp only[hM]at KM |-;simp only[hZ]at KL |-;rw[hN]at HS0 hn;rw[hopp]at e0 KL |-;obtain⟨L0,L1,L2,L3,L4⟩:=r;obtain⟨K,Q⟩:=M;unfold CA at KM |-;unfold Dj at KM;simp only at KM;rw[Ry];have HKI:Hid (∀w,WS E G C n gi vs (.slice p N q) w s->Calls prog 97 #[.pointer (some ⟨G,0,none⟩)] w fun e w'=>(∃A:Int,e=.returned (.tuple #[.agg #[.bool X,.int .i64 P,.int .i64 A],.bool Y]))/\Below w.heap.size w w'):=fun w hw=>KI w hw hn;have HKM:Hid (∀w,BM w C v0 v1 v2 v3 c->Aq w b o (CJ i)->Calls prog 93 #[.pointer (some ⟨C,0,none⟩),.pointer (some ⟨b,o,none⟩),.agg #[.int .i64 L0,.int .i64 L1,.int .i64 L2,.int .i64 L3,.int .i64 L4]] w fun e w'=>e=.returned (.agg #[.int .i64 K,.int .i64 Q])/\Below w.heap.size w w'):=KM;have HKL:Hid (∀w,Calls prog 98 #[.int .i64 op] w fun e w'=>e=.returned (.bool Z)/\w'=w):=KL;have HE0:Hid (w.cell? ⟨b,o,none⟩=some (.int .i64 op)):=e0;have HOP:Hid (Y=false->X=false):=hop;clear KI KM KL h hc hi hk hX hY hP hZ hM hN hopp e0 hop hn;by_cases h34:op=34\/op=36
 .rw[if_pos h34];cases X
  .cases Y
   all_goals
    rcases h34 with h|h
    .have e1:(op==34)=true:=(by have:op=34:=oM;simpa using this);have e2:(op==36)=false:=(by have:op≠36:=oM;simpa using this);have e3:(op==35)=false:=(by have:op≠35:=oM;simpa using this);have e4:(op==37)=false:=(by have:op≠37:=oM;simpa using this)
     clear h;exact VP
    .have e1:(op==34)=false:=(by have:op≠34:=oM;simpa using this);have e2:(op==36)=true:=(by have:op=36:=oM;simpa using this);have e3:(op==35)=false:=(by have:op≠35:=oM;simpa using this);have e4:(op==37)=false:=(by have:op≠37:=oM;simpa using this)
     clear h;exact VP
  .cases Y
   .exact absurd (HOP.out rfl) dE
   .rcases h34 with h|h
    .have e1:(op==34)=true:=(by have:op=34:=oM;simpa using this);have e2:(op==36)=false:=(by have:op≠36:=oM;simpa using this);have e3:(op==35)=false:=(by have:op≠35:=oM;simpa using this);have e4:(op==37)=false:=(by have:op≠37:=oM;simpa using this)
     clear h;exact VQ
    .have e1:(op==34)=false:=(by have:op≠34:=oM;simpa using this);have e2:(op==36)=true:=(by have:op=36:=oM;simpa using this);have e3:(op==35)=false:=(by have:op≠35:=oM;simpa using this);have e4:(op==37)=false:=(by have:op≠37:=oM;simpa using this)
     clear h;exact VQ
 rw[if_neg h34];by_cases h35:op=35
 .rw[if_pos h35];have e1:(op==34)=false:=(by have:op≠34:=oM;simpa using this);have e2:(op==36)=false:=(by have:op≠36:=oM;simpa using this);have e3:(op==35)=true:=(by have:op=35:=oM;simpa using this);have e4:(op==37)=false:=(by have:op≠37:=oM;simpa using this)
  clear h34 h35;cases X
  .cases Y
   all_goals
    exact VP
  .cases Y
   .exact absurd (HOP.out rfl) dE
   .exact VQ
 rw[if_neg h35];by_cases h37:op=37
 .rw[if_pos h37];have e1:(op==34)=false:=(by have:op≠34:=oM;simpa using this);have e2:(op==36)=false:=(by have:op≠36:=oM;simpa using this);have e3:(op==35)=false:=(by have:op≠35:=oM;simpa using this);have e4:(op==37)=true:=(by have:op=37:=oM;simpa using this)
  clear h34 h35 h37;cases X
  .cases Y
   all_goals
    exact VP
  .cases Y
   .exact absurd (HOP.out rfl) dE
   .exact VQ
 rw[if_neg h37];have e1:(op==34)=false:=by have:op≠34:=(fun e=>h34 (.inl e));simpa using this
 have e2:(op==36)=false:=by have:op≠36:=(fun e=>h34 (.inr e));simpa using this
 have e3:(op==35)=false:=by simpa using h35
 have e4:(op==37)=false:=by simpa using h37
 clear h34 h35 h37;cases X
 .cases Y
  all_goals
   go_enter func58,ntmps58;go_wp2_with(go_at_call 97;refine(HKI.out _ (HS0.below (A2 _ _))).mono ?_;rintro e w1 ⟨⟨A,rfl⟩,hb1⟩;have HF:Hid (MW w w1.heap.size G C b o (.slice p N q) L0 L1 L2 L3 L4 op false P A (w1.alloc (.cells #[.bool false,.int .i64 P,.int .i64 A] 153))):=X9;have f0:=HF.m0;have f1:=HF.g3;have f2:=HF.e0;have f3:=HF.m1;have f4:=HF.g0);refine rG (fun v=>v.cell? ⟨b,o,none⟩=some (.int .i64 op)) fun yH=>?_;refine Tc 0 1 2 ?_;refine Kd 3 4 5 6 ?_;refine Kd 7 8 9 10 ?_;refine Kd 11 12 13 14 ?_;refine Kd 15 16 17 18 ?_;refine Cu 19 ?_;refine Cu 20 ?_;refine Tb 21 22 ?_;refine wpAnyH_done kR ?_ _;go_wp2;go_ret;exact⟨A8 sM,bel HF.bel (A4 _)⟩
 .cases Y
  .exact absurd (HOP.out rfl) dE
  .cases Z
   .go_enter func58,ntmps58;go_wp2_with(go_at_call 97;refine(HKI.out _ (HS0.below (A2 _ _))).mono ?_;rintro e w1 ⟨⟨A,rfl⟩,hb1⟩;have HF:Hid (MW w w1.heap.size G C b o (.slice p N q) L0 L1 L2 L3 L4 op true P A (w1.alloc (.cells #[.bool true,.int .i64 P,.int .i64 A] 153))):=X9;have f0:=HF.m0;have f1:=HF.g3;have f2:=HF.e0;have f3:=HF.m1;have f4:=HF.g0);refine rG (fun v=>v.cell? ⟨b,o,none⟩=some (.int .i64 op)) fun yH=>?_;refine Tf 0 1 2 3 4 5 ?_;refine Bn 6 ?_;clear yH;refine Aw 7 fun K hK=>?_;go_simp;(go_at_call 98;refine(HKL.out _).mono ?_;rintro e w3 ⟨rfl,rfl⟩);try(go_wp2_with fail)
    refine AU hK fun yH=>?_;clear hK K;refine Bn 8 ?_;refine Kd 9 10 11 12 ?_;refine Kd 13 14 15 16 ?_;refine Cu 17 ?_;refine Cu 18 ?_;refine Cu 19 ?_;refine Tc 20 21 22 ?_;refine wpAnyH_done kR ?_ _;go_wp2;go_ret;exact⟨A8 sM,bel HF.bel (A4 _)⟩
   .cases hl:(K==3)<;>cases hq:(Q==P)
    all_goals
     go_enter func58,ntmps58;go_wp2_with(go_at_call 97;refine(HKI.out _ (HS0.below (A2 _ _))).mono ?_;rintro e w1 ⟨⟨A,rfl⟩,hb1⟩;have HF:Hid (MW w w1.heap.size G C b o (.slice p N q) L0 L1 L2 L3 L4 op true P A (w1.alloc (.cells #[.bool true,.int .i64 P,.int .i64 A] 153))):=X9;have f0:=HF.m0;have f1:=HF.g3;have f2:=HF.e0;have f3:=HF.m1;have f4:=HF.g0);have HCX:Hid (∀v,Below (w1.alloc (.cells #[.bool true,.int .i64 P,.int .i64 A] 153)).heap.size (w1.alloc (.cells #[.bool true,.int .i64 P,.int .i64 A] 153)) v->v.cell? ⟨b,o,none⟩=some (.int .i64 op)/\v.cell? ⟨G,0,none⟩=some (.pointer (some ⟨C,0,none⟩))/\v.cell? ⟨w1.heap.size,1,none⟩=some (.int .i64 P)/\v.cell? ⟨w.heap.size,0,none⟩=some (.int .i64 L0)/\v.cell? ⟨w.heap.size,1,none⟩=some (.int .i64 L1)/\v.cell? ⟨w.heap.size,2,none⟩=some (.int .i64 L2)/\v.cell? ⟨w.heap.size,3,none⟩=some (.int .i64 L3)/\v.cell? ⟨w.heap.size,4,none⟩=some (.int .i64 L4)):=fun v hv=>⟨(HF.next hv).e0,(HF.next hv).g0,(HF.next hv).m1,(HF.next hv).r0,(HF.next hv).r1,(HF.next hv).r2,(HF.next hv).r3,(HF.next hv).r4⟩
     have f5:=HF.r0;have f6:=HF.r1;have f7:=HF.r2;have f8:=HF.r3;have f9:=HF.r4;refine rG (fun v=>v.cell? ⟨b,o,none⟩=some (.int .i64 op)/\v.cell? ⟨G,0,none⟩=some (.pointer (some ⟨C,0,none⟩))/\v.cell? ⟨w1.heap.size,1,none⟩=some (.int .i64 P)/\v.cell? ⟨w.heap.size,0,none⟩=some (.int .i64 L0)/\v.cell? ⟨w.heap.size,1,none⟩=some (.int .i64 L1)/\v.cell? ⟨w.heap.size,2,none⟩=some (.int .i64 L2)/\v.cell? ⟨w.heap.size,3,none⟩=some (.int .i64 L3)/\v.cell? ⟨w.heap.size,4,none⟩=some (.int .i64 L4)) fun yH=>?_;refine Tf 0 1 2 3 4 5 ?_;refine Bn 6 ?_;clear yH;refine Aw 7 fun K hK=>?_;go_simp;(go_at_call 98;refine(HKL.out _).mono ?_;rintro e w3 ⟨rfl,rfl⟩);try(go_wp2_with fail)
     refine AU hK fun yH=>?_;clear hK K;refine Tf 8 9 10 11 12 13 ?_;refine Tc 14 16 17 ?_;refine Bn 18 ?_;clear yH;refine Aw 15 fun K hK=>?_;go_simp;(go_at_call 93;refine(HKM.out _ (HC0.below (bel HF.bel (A4 _))) (HI0.below (bel HF.bel (A4 _)))).mono ?_;rintro e w3 ⟨rfl,hb3⟩;have HB3:=bel (A4 _) hb3;obtain⟨y0,y1,y2,y3,y4,y5,y6,y7⟩:=HCX.out w3 HB3);try(go_wp2_with fail)
     refine AU hK fun yH=>?_;clear hK K;refine Tc 19 20 21 ?_;refine Bn 22 ?_;refine wpAnyH_done kR ?_ _;go_wp2;go_ret;exact⟨A8 (by simp[hl,hq]),(HF.next HB3).bel⟩
def D3(p:Option Addr)(c k sz:Nat):Option Addr:=if c=k then p else p.map (·.add (k*sz))
theorem OP(p:Option Addr)(h c sz:Nat):sliced p 0 h c sz=.slice p h c:=by
 unfold sliced;by_cases c0:c=0
 .subst c0;simp
 .rw[if_neg oM];cases p<;>simp[Addr.add]
theorem Eu{t:TypeId}{sz:Nat}(hu:prog.underlying t=some (.slice (prog.elem t)))(hz:∀w,(sizeOf (prog.elem t)).run prog w=.ok sz w)(p:Option Addr)(n c h:Nat)(hh:h<=c)(w:World):
 (Instr.sliceAt t (.slice p n c) none (some (.int .i64 h)) none).run prog w=.ok (.slice p h c) w:=by
 rw[run_sliceAt_slice (h:=hu),run_slice_h (ht:=hu) (h0:=by omega) (h2:=by omega),hz];rw[Result.andThen_ok,Int.toNat_natCast,OP p h c sz]
theorem Gd{t:TypeId}{sz:Nat}(hu:prog.underlying t=some (.slice (prog.elem t)))(hz:∀w,(sizeOf (prog.elem t)).run prog w=.ok sz w)(p:Option Addr)(n c k:Nat)(hk:k<=n)(w:World):
 (Instr.sliceAt t (.slice p n c) (some (.int .i64 k)) none none).run prog w=.ok (.slice (D3 p c k sz) (n-k) (c-k)) w:=by
 rw[run_sliceAt_slice (h:=hu),run_slice_l (ht:=hu) (h0:=by omega) (h1:=by omega),hz];rw[Result.andThen_ok,Int.toNat_natCast];unfold sliced D3;simp
theorem TO:prog.underlying 76=some (.slice (prog.elem 76)):=kR
theorem Ug:prog.elem 76=3:=kR
theorem Ro(w:World):(sizeOf (prog.elem 76)).run prog w=.ok 1 w:=by rw[Ug];exact Tryz.sizeOf3 w
theorem VL:prog.underlying 77=some (.slice (prog.elem 77)):=kR
theorem Uf:prog.elem 77=153:=kR
theorem UT(w:World):(sizeOf (prog.elem 77)).run prog w=.ok 3 w:=by rw[Uf];exact Tryz.sizeOf153 w
theorem Lm:(prog.info? 153).map (fun i=>(i.zero,i.size,i.bytes))=some (some (.agg #[.bool false,.int .i64 0,.int .i64 0]),3,24):=kR
theorem Fk{w:World}{B:Nat}{t:TypeId}{k:Nat}{p:Option Addr}{n c:Nat}{xs:List Value}(h:w.ownsRow B t k (.slice p n c) n xs){m:Nat}(hm:m<=n):w.ownsRow B t k (.slice p m c) m (xs.take (m*k)):=by
 obtain⟨hl,h⟩:=h;have hle:m*k<=n*k:=Nat.mul_le_mul_right k hm;refine⟨by rw[List.length_take,hl];exact Nat.min_eq_left hle,?_⟩;rcases h with⟨hv,h0⟩|⟨g,cap,cur,hv,hB,hg,hc1,hc2,hsz,htk⟩
 .left;subst h0;have:m=0:=oM;subst this;exact⟨hv,rfl⟩
 .simp only[Value.slice.injEq]at hv;obtain⟨rfl,-,rfl⟩:=hv;refine .inr ⟨g,c,cur,rfl,hB,hg,oM,hc2,hsz,?_⟩;rw[<-htk,List.take_take,Nat.min_eq_left hle]
structure WX(E G C n gi:Nat)(vs vo:Value)(w:World)(S:List Nat)(O:List Bk)(X:Nat->Bool):Prop where
 g:w.rowIs G 79 4 (VN C gi n vs vo)
 i:w.rowIs gi 4 n (fun j=>.bool (X j))
 set:w.ownsRow E 3 1 vs S.length (F1 S)
 opn:w.ownsRow E 153 3 vo O.length (C8 O.reverse)
 hG:E<=G
 hgi:E<=gi
 n1:gi≠G
 n2:vs.ownBlock≠some G
 n3:vs.ownBlock≠some gi
 n4:vo.ownBlock≠some G
 n5:vo.ownBlock≠some gi
 n6:∀b,vs.ownBlock=some b->vo.ownBlock≠some b
section
variable {E G C n gi : Nat} {vs vo : Value} {w w' : World} {S : List Nat} {O : List Bk} {X : Nat -> Bool} {s : Wk}
theorem WS.x(h:WS E G C n gi vs vo w s):WX E G C n gi vs vo w s.set s.opens (fun j=>decide (j∈s.set)):=⟨h.g,h.i,h.set,h.opn,h.hG,h.hgi,h.n1,h.n2,h.n3,h.n4,h.n5,h.n6⟩
theorem WX.st(h:WX E G C n gi vs vo w s.set s.opens X)(hx:∀j,j<n->X j=decide (j∈s.set)):WS E G C n gi vs vo w s:=
 ⟨h.g,h.i.congr fun j hj=>by rw[hx j hj],h.set,h.opn,h.hG,h.hgi,h.n1,h.n2,h.n3,h.n4,h.n5,h.n6⟩
theorem WX.below(h:WX E G C n gi vs vo w S O X)(k:Below w.heap.size w w'):WX E G C n gi vs vo w' S O X:=
 ⟨h.g.of_block (k.block _ h.g.lt),h.i.of_block (k.block _ h.i.lt),Ag h.set k,Ag h.opn k,h.hG,h.hgi,h.n1,h.n2,h.n3,h.n4,h.n5,h.n6⟩
theorem WX.c1(h:WX E G C n gi vs vo w S O X):w.cell? ⟨G,1,none⟩=some (.slice (some ⟨gi,0,none⟩) n n):=h.g.cell (i:=1) dE
theorem WX.c2(h:WX E G C n gi vs vo w S O X):w.cell? ⟨G,2,none⟩=some vs:=h.g.cell (i:=2) dE
theorem WX.lt(h:WX E G C n gi vs vo w S O X):E<=w.heap.size:=gH h.hG (Nat.le_of_lt h.g.lt)
theorem WX.opens{vo':Value}{O':List Bk}(h:WX E G C n gi vs vo w S O X)(ho:w.ownsRow E 153 3 vo' O'.length (C8 O'.reverse))(m4:vo'.ownBlock≠some G)(m5:vo'.ownBlock≠some gi)(m6:∀b,vs.ownBlock=some b->vo'.ownBlock≠some b):
 WX E G C n gi vs vo' (w.setCell ⟨G,3,none⟩ vo') S O' X:=by
 have nb:∀b,b≠G->(w.setCell ⟨G,3,none⟩ vo').heap[b]? =w.heap[b]? :=fun b hb=>gE hb;refine⟨(h.g.set 3 vo').congr fun j hj=>?_,h.i.of_block (nb _ h.n1),Aa h.set fun b hb=>nb b fun e=>h.n2 (e▸hb),Aa ho fun b hb=>nb b fun e=>m4 (e▸hb),h.hG,h.hgi,h.n1,h.n2,h.n3,m4,m5,m6⟩;exact Wc
theorem WX.sets{vs':Value}{S':List Nat}(h:WX E G C n gi vs vo w S O X)(hs:w.ownsRow E 3 1 vs' S'.length (F1 S'))(m2:vs'.ownBlock≠some G)(m3:vs'.ownBlock≠some gi)(m6:∀b,vs'.ownBlock=some b->vo.ownBlock≠some b):
 WX E G C n gi vs' vo (w.setCell ⟨G,2,none⟩ vs') S' O X:=by
 have nb:∀b,b≠G->(w.setCell ⟨G,2,none⟩ vs').heap[b]? =w.heap[b]? :=fun b hb=>gE hb;refine⟨(h.g.set 2 vs').congr fun j hj=>?_,h.i.of_block (nb _ h.n1),Aa hs fun b hb=>nb b fun e=>m2 (e▸hb),Aa h.opn fun b hb=>nb b fun e=>h.n4 (e▸hb),h.hG,h.hgi,h.n1,m2,m3,h.n4,h.n5,m6⟩;exact Wc
theorem WX.put(h:WX E G C n gi vs vo w S O X)(x:Nat)(v:Bool):WX E G C n gi vs vo (w.setCell ⟨gi,x,none⟩ (.bool v)) S O (fun j=>if j=x then v else X j):=by
 have nb:∀b,b≠gi->(w.setCell ⟨gi,x,none⟩ (.bool v)).heap[b]? =w.heap[b]? :=fun b hb=>gE hb;refine⟨h.g.of_block (nb _ (Ne.symm h.n1)),(h.i.set x (.bool v)).congr fun j hj=>?_,Aa h.set fun b hb=>nb b fun e=>h.n3 (e▸hb),Aa h.opn fun b hb=>nb b fun e=>h.n5 (e▸hb),h.hG,h.hgi,h.n1,h.n2,h.n3,h.n4,h.n5,h.n6⟩;show(if j=x then _ else _)=_;split<;>rfl
theorem WX.of{X':Nat->Bool}(h:WX E G C n gi vs vo w S O X)(e:∀j,j<n->X j=X' j):WX E G C n gi vs vo w S O X':=
 ⟨h.g,h.i.congr fun j hj=>by rw[e j hj],h.set,h.opn,h.hG,h.hgi,h.n1,h.n2,h.n3,h.n4,h.n5,h.n6⟩
theorem WX.grown{row:Option Nat}(h:WX E G C n gi vs vo w S O X)(hg:w.grownBy w' row)(hr:row=vo.ownBlock\/row=vs.ownBlock):
 w'.rowIs G 79 4 (VN C gi n vs vo)/\w'.rowIs gi 4 n (fun j=>.bool (X j))/\(row=vo.ownBlock->w'.ownsRow E 3 1 vs S.length (F1 S))/\(row=vs.ownBlock->w'.ownsRow E 153 3 vo O.length (C8 O.reverse)):=by
 have k1:some G≠row:=fun e=>by
  rcases hr with hr|hr
  .rw[hr]at e;exact h.n4 e.symm
  .rw[hr]at e;exact h.n2 e.symm
 have k2:some gi≠row:=fun e=>by
  rcases hr with hr|hr
  .rw[hr]at e;exact h.n5 e.symm
  .rw[hr]at e;exact h.n3 e.symm
 exact⟨h.g.of_block (hg.block _ h.g.lt k1),h.i.of_block (hg.block _ h.i.lt k2),fun hr=>Aa h.set fun b hb=>hg.block b (h.set.lt b hb).2 fun e=>h.n6 b hb (by rw[<-hr];exact e.symm),fun hr=>Aa h.opn fun b hb=>hg.block b (h.opn.lt b hb).2 fun e=>h.n6 b (by rw[<-hr];exact e.symm) hb⟩
end
structure LW(E G C n gi:Nat)(vs vo:Value)(w:World)(S:List Nat)(O:List Bk)(X:Nat->Bool)(H:Nat)(L:Bool)(A:Nat)(v:World):Prop where
 bel:Below E w v
 st:WX E G C n gi vs vo v S O X
 b0:v.cell? ⟨H,0,none⟩=some (.bool L)
 b2:v.cell? ⟨H,2,none⟩=some (.int .i64 (A:Int))
 hH:H≠G
 hI:H≠gi
 off:∀k,k<w.heap.size->k≠G->k≠gi->v.heap[k]? =w.heap[k]?
section
variable {E G C n gi : Nat} {vs vo : Value} {w v v' : World} {S : List Nat} {O : List Bk} {X : Nat -> Bool} {H : Nat} {L : Bool} {A : Nat}
theorem LW.below(h:LW E G C n gi vs vo w S O X H L A v)(k:Below v.heap.size v v'):LW E G C n gi vs vo w S O X H L A v':=
 ⟨h.bel.trans (k.mono h.st.lt),h.st.below k,kc k h.b0,kc k h.b2,h.hH,h.hI,fun j hj h1 h2=>(k.block j (Nat.lt_of_lt_of_le hj h.bel.size)).trans (h.off j hj h1 h2)⟩
theorem LW.put(h:LW E G C n gi vs vo w S O X H L A v)(x:Nat)(b:Bool):LW E G C n gi vs vo w S O (fun j=>if j=x then b else X j) H L A (v.setCell ⟨gi,x,none⟩ (.bool b)):=by
 have f:∀j,(v.setCell ⟨gi,x,none⟩ (.bool b)).cell? ⟨H,j,none⟩=v.cell? ⟨H,j,none⟩:=fun j=>gC (gE h.hI);exact⟨h.bel.setCell h.st.hgi _,h.st.put x b,(f 0).trans h.b0,(f 2).trans h.b2,h.hH,h.hI,fun j hj h1 h2=>(gE h2).trans (h.off j hj h1 h2)⟩
theorem LW.of{X':Nat->Bool}(h:LW E G C n gi vs vo w S O X H L A v)(e:∀j,j<n->X j=X' j):LW E G C n gi vs vo w S O X' H L A v:=⟨h.bel,h.st.of e,h.b0,h.b2,h.hH,h.hI,h.off⟩
end
theorem J7{w:World}{B:Nat}{t:TypeId}{k:Nat}{p:Option Addr}{n c:Nat}{xs:List Value}(h:w.ownsRow B t k (.slice p n c) n xs):n<=c:=by
 rcases h.2 with⟨hv,h0⟩|⟨g,cap,cur,hv,hB,hg,hc1,hc2,hsz,htk⟩
 .omega
 .simp only[Value.slice.injEq]at hv;omega
theorem Rl{w:World}{B:Nat}{t:TypeId}{p:Option Addr}{c:Nat}{S:List Nat}(h:w.ownsRow B t 1 (.slice p S.length c) S.length (F1 S)){A j:Nat}(hj:A+j<S.length):
 ∃g,p=some ⟨g,0,none⟩/\D3 p c A 1=some ⟨g,A,none⟩/\w.cell? ⟨g,A+j,none⟩=some (.int .i64 (S[A+j]:Int)):=by
 obtain⟨g,cap,hv,_,_,hc1,_,hcl⟩:=Ef h oM;simp only[Value.slice.injEq]at hv;obtain⟨rfl,-,rfl⟩:=hv;refine⟨g,rfl,?_,hcl _ _ (by simp[F1,gB hj])⟩;unfold D3;rw[if_neg oM];by_cases h0:A=0
 .subst h0;simp[Addr.add]
 .simp[Addr.add,h0]
theorem Dz(p:Option Addr)(a b c:Nat):(Value.slice p a c).ownBlock=(Value.slice p b c).ownBlock:=by cases p<;>rfl
def Dx(S:List Nat)(A q:Nat)(j:Nat):Bool:=decide (j∈S)&& !decide (j∈(S.drop A).take q)
theorem Ir(S:List Nat)(A j:Nat):Dx S A 0 j=decide (j∈S):=by simp[Dx]
theorem Ok{S:List Nat}{A q:Nat}(h:A+q<S.length)(j:Nat):(if j=S[A+q]then false else Dx S A q j)=Dx S A (q+1) j:=by
 have e:(S.drop A).take (q+1)=(S.drop A).take q++[S[A+q]]:=by
  rw[List.take_succ_eq_append_getElem (by rw[List.length_drop];omega)];simp
 unfold Dx;rw[e];by_cases hj:j=S[A+q]
 .rw[if_pos hj,hj];simp
 .rw[if_neg hj];simp[hj]
theorem Q0{S:List Nat}{A:Nat}(hd:S.Nodup)(j:Nat):Dx S A (S.length-A) j=decide (j∈S.take A):=by
 have e:(S.drop A).take (S.length-A)=S.drop A:=List.take_of_length_le sM;unfold Dx;rw[e];have hs:S=S.take A++S.drop A:=(List.take_append_drop A S).symm;have hd':=hd;rw[hs,List.nodup_append]at hd';by_cases h1:j∈S.take A
 .have h2:j∉S.drop A:=fun h2=>hd'.2.2 j h1 j h2 rfl;have h3:j∈S:=List.mem_of_mem_take h1;simp[h1,h2,h3]
 .by_cases h2:j∈S.drop A
  .simp[h1,h2]
  .have h3:j∉S:=fun h3=>by rw[hs]at h3;exact(List.mem_append.1 h3).elim h1 h2
   simp[h1,h3]
theorem Oe(E G C n gi:Nat)(vs vo:Value)(s:Wk)(w:World)(h:WS E G C n gi vs vo w s)(ok:Df n s)(hn:n<=16384)(hop:s.opens≠[]):
 Calls prog 99 #[.pointer (some ⟨G,0,none⟩)] w fun e w'=>e=.returned (.tuple #[])/\Below E w w'/\(∀k,k<w.heap.size->k≠G->k≠gi->w'.heap[k]? =w.heap[k]?)/\∃vs' vo',WS E G C n gi vs' vo' w' (B9 s):=by
 obtain⟨S,O⟩:=s;cases O with
 |nil=>exact absurd rfl hop
 |cons bk r=>
  clear hop;obtain⟨L,P,A⟩:=bk;have hlen:=ok.len;obtain⟨hnd,hlt,⟨hA,hAr⟩,hne⟩:=ok;simp only at hnd hlt hA hAr hne hlen;have hx:=h.x;have hG:=h.g.lt;have hgi:=h.i.lt;have hE:=h.lt;obtain⟨g,cap,rfl,hE2,hg,hc1,hc2,hcl⟩:=Ef h.opn sM;obtain⟨pS,cS,rfl⟩:=Ac h.set;have hcs:=J7 h.set;simp only at hcs;have hl:r.reverse.length=r.length:=List.length_reverse;simp only[List.reverse_cons]at hcl;have x0:=hcl (r.length*3) (.bool L) Ym;have x1:=hcl (r.length*3+1) (.int .i64 P) Yl;have x2:=hcl (r.length*3+2) (.int .i64 A) Yk;have c3:=h.c3;have HX:Hid (WX E G C n gi (.slice pS S.length cS) (.slice (some ⟨g,0,none⟩) (r.length+1) cap) w S (⟨L,P,A⟩::r) (fun j=>decide (j∈S))):=hx;simp only[List.length_cons]at c3 hne hc1;have HL1:Hid (LW E G C n gi (.slice pS S.length cS) (.slice (some ⟨g,0,none⟩) r.length cap) w S r (Dx S A 0) w.heap.size L A ((w.setCell ⟨G,3,none⟩ (.slice (some ⟨g,0,none⟩) r.length cap)).alloc (.cells #[.bool L,.int .i64 P,.int .i64 (A:Int)] 153))):=by
   have ho:=Fk (m:=r.length) hx.opn sM;have he:(C8 ((⟨L,P,A⟩::r).reverse)).take (r.length*3)=C8 r.reverse:=by
    rw[List.reverse_cons,E8,List.take_append_of_le_length (by rw[CT,hl];exact gF _),List.take_of_length_le (by rw[CT,hl];exact gF _)]
   rw[he]at ho;have hs:(w.setCell ⟨G,3,none⟩ (.slice (some ⟨g,0,none⟩) r.length cap)).heap.size=w.heap.size:=sM;have q:=hx.opens ho hx.n4 hx.n5 hx.n6;obtain⟨V,hV⟩:=gA (w.setCell ⟨G,3,none⟩ (.slice (some ⟨g,0,none⟩) r.length cap))
   have hbV:Below E w V:=by rw[<-hV];exact(Below.refl E w).setCell hx.hG _
   have hoV:∀k,k≠G->V.heap[k]? =w.heap[k]? :=fun k hk=>by rw[<-hV];exact gE hk
   rw[hV]at hs q |-;exact⟨hbV.alloc oM _,(q.below (A2 V _)).of fun j _=>(Ir S A j).symm,by rw[<-hs];simp[go_sem],by rw[<-hs];simp[go_sem],oM,oM,fun k hk h1 _=>(Below.heap_alloc _ _ _ oM).trans (hoV k h1)⟩
  have HOW:Hid (∀v,WX E G C n gi (.slice pS S.length cS) (.slice (some ⟨g,0,none⟩) r.length cap) v S r (Dx S A (S.length-A))->WS E G C n gi (.slice pS A cS) (.slice (some ⟨g,0,none⟩) r.length cap) (v.setCell ⟨G,2,none⟩ (.slice pS A cS)) ⟨S.take A,r⟩):=fun v hv=>by
   have ho:=Fk (m:=A) hv.set hA;rw[Nat.mul_one,OO]at ho;have hlA:(S.take A).length=A:=by rw[List.length_take];omega
   have ho':v.ownsRow E 3 1 (.slice pS A cS) (S.take A).length (F1 (S.take A)):=by rw[hlA];exact ho
   have q:=hv.sets (vs':=.slice pS A cS) (S':=S.take A) ho' (by rw[Dz pS A S.length cS];exact hv.n2) (by rw[Dz pS A S.length cS];exact hv.n3) (by rw[Dz pS A S.length cS];exact hv.n6);exact WX.st (s:=⟨S.take A,r⟩) q fun j _=>Q0 hnd j
  have HFR:Hid (∀v:World,v.ownsRow E 3 1 (.slice pS S.length cS) S.length (F1 S)->∀j,A+j<S.length->∃ (gs x:Nat),D3 pS cS A 1=some ⟨gs,A,none⟩/\v.cell? ⟨gs,A+j,none⟩=some (.int .i64 (x:Int))/\x<n/\∀i,(if i=x then false else Dx S A j i)=Dx S A (j+1) i):=fun v hv j hj=>by
   obtain⟨gs,_,h2,h3⟩:=Rl hv hj;exact⟨gs,S[A+j],h2,h3,hlt _ (gD hj),fun i=>Ok hj i⟩
  have HLT:Hid (WX E G C n gi (.slice pS S.length cS) (.slice (some ⟨g,0,none⟩) r.length cap) w S r (Dx S A 0)->True):=fun _=>trivial;have HL3:Hid (∀v,WX E G C n gi (.slice pS S.length cS) (.slice (some ⟨g,0,none⟩) r.length cap) v S r (Dx S A 0)->WS E G C n gi (.slice pS S.length cS) (.slice (some ⟨g,0,none⟩) r.length cap) v ⟨S,r⟩):=fun v hv=>WX.st (s:=⟨S,r⟩) hv fun j _=>Ir S A j;have s1:=fun w=>Eu VL UT (some ⟨g,0,none⟩) (r.length+1) cap r.length oM w;have s2:=fun w=>Gd TO Ro pS S.length cS A hA w;have s3:=fun w=>Eu TO Ro pS S.length cS A oM w;obtain⟨m,hm⟩:=gA (r.length)
  obtain⟨K,hK⟩:=gA (S.length)
  obtain⟨pF,hpF⟩:∃p,D3 pS cS A 1=p:=⟨_,rfl⟩
  simp only[B9];rw[hm]at x0 x1 x2 c3 hne hc1 s1 HX HL1 HOW HL3;rw[hK]at s2 s3 HL1 HOW HL3 hA hlen hcs HX;simp only[hpF]at s2;simp only[hpF,hK]at HFR;have HD:Hid (K-A<=16384):=by show _<=_;omega
  obtain⟨N,hN⟩:=gA (m+1)
  rw[hN]at c3 hne hc1 s1 HX;obtain⟨D,hD⟩:=gA (K-A)
  rw[hD]at s2 HOW HD;have HDD:Hid (K-A=D):=hD;have HKK:Hid (S.length=K):=hK;have hw:IntKind.i64.wrap ((N:Int)-1)=(m:Int):=by rw[IntKind.wrap_i64];omega
  have i1:(0:Int)<=(m:Int):=oM;have i2:(m:Int)<(N:Int):=oM;have ng:g≠w.heap.size:=oM;have nG:G≠w.heap.size:=oM;have fz:=h.g.frozen 3;have HB0:Hid (D<=16384):=HD;have hDb:D<=16384:=HD.out;clear hcl hl hm hK hpF hN hD h hx hAr hlt hnd HLT HD;go_enter func99,ntmps99;go_upto_region 2 with fail;go_cut [3] (fun bv wx=>bv=.pointer (some ⟨w.heap.size,0,none⟩)/\LW E G C n gi (.slice pS K cS) (.slice (some ⟨g,0,none⟩) m cap) w S r (Dx S A 0) w.heap.size L A wx)
  case first=>
   go_wp2;go_meet;exact⟨rfl,HL1.out⟩
  case rest=>
   obtain⟨rfl,lw⟩:=hcut;have HLW:Hid (LW E G C n gi (.slice pS K cS) (.slice (some ⟨g,0,none⟩) m cap) w S r (Dx S A 0) w.heap.size L A wc):=lw;have b0:=lw.b0;have b2:=lw.b2;have d2:=lw.st.c2;clear lw HL1 HX x0 x1 x2 c3 fz;cases L
   .go_wp2;refine rG (fun v=>v.cell? ⟨G,2,none⟩=some (.slice pS K cS)/\v.cell? ⟨w.heap.size,2,none⟩=some (.int .i64 (A:Int))) fun yH=>?_;refine Tf 0 1 2 3 4 5 ?_;refine Tc 6 7 8 ?_;refine wpAnyH_done kR ?_ _;go_wp2
    go_loopw [38] (fun iv wr=>∃j:Nat,j<=D/\iv=.int .i64 j/\LW E G C n gi (.slice pS K cS) (.slice (some ⟨g,0,none⟩) m cap) w S r (Dx S A j) w.heap.size false A wr) (fun iv _=>D-(intOf iv).toNat)
    case atStart=>exact⟨0,gJ _,rfl,HLW.below (A4 _)⟩
    case round=>
     clear HLW b0 b2 d2;obtain⟨j,hj,rfl,lw⟩:=hrel;have HLW:Hid (LW E G C n gi (.slice pS K cS) (.slice (some ⟨g,0,none⟩) m cap) w S r (Dx S A j) w.heap.size false A wr):=lw;by_cases hlt:j<D
     .obtain⟨gs,x,rfl,xj,hxn,hsv⟩:=HFR.out wr (by have:=lw.st.set;rw[HKK.out]at this;exact this) j (by have:=HDD.out;omega);have HSV:Hid (∀i,(if i=x then false else Dx S A j i)=Dx S A (j+1) i):=hsv;have d1:=lw.st.c1;have y1:=lw.st.i.cell hxn;have y2:=lw.st.i.frozen x;have i3:(0:Int)<=(j:Int):=oM;have i4:(j:Int)<(D:Int):=oM;have i5:(0:Int)<=(x:Int):=oM;have i6:(x:Int)<(n:Int):=oM;clear lw hsv;go_wp2;go_roundw
      case rel=>exact⟨j+1,oM,gN,(HLW.put x false).of fun i _=>HSV.out i⟩
      case measure=>simp[intOf];omega
     .have:j=D:=oM;subst this;have d2:=lw.st.c2;have b2:=lw.b2;have d3:=lw.st.g.frozen 2;have hGr:G≠w.heap.size:=oM;clear lw;go_wp2;refine rG (fun v=>v.cell? ⟨w.heap.size,2,none⟩=some (.int .i64 (A:Int))) fun yH=>?_;refine Tf 0 1 2 3 5 6 ?_;clear yH;refine Aw 4 fun K hK=>?_;go_simp;refine AU hK fun yH=>?_;clear hK K;refine Tc 7 8 9 ?_;clear yH;refine Aw 10 fun K hK=>?_;go_simp;refine AU hK fun yH=>?_;clear hK K;refine wpAnyH_done kR ?_ _;go_wp2;first|go_end0|(simp only[Exit.inBlock,Exit.then];refine bodyPost_ret (results_none rfl _ _ _) rfl ?_)|refine bodyPost_ret (results_none rfl _ _ _) rfl ?_
      exact⟨rfl,(HLW.bel.drew).setCell HLW.st.hG _,fun k hk h1 h2=>(gE h1).trans (HLW.off k hk h1 h2),_,_,HOW.out _ (HLW.below (A4 _)).st⟩
   .go_wp2;first|go_end0|(simp only[Exit.inBlock,Exit.then];refine bodyPost_ret (results_none rfl _ _ _) rfl ?_)|refine bodyPost_ret (results_none rfl _ _ _) rfl ?_
    exact⟨rfl,HLW.bel,HLW.off,_,_,HL3.out _ HLW.st⟩
theorem Hj{P:Program}{w w':World}{ops:Array Oper}{o:Oper}{a:Act}{K:Act->World->Prop}{Q:Exit->Act->World->Prop}{E:Prop}(hgd:o.guard=none)(s x:Operand)(t:TypeId)
 (ho:o.op=.call {callee:=.builtin .append,args:=#[s,x],argTypes:=#[t,t]}) (v v2 v':Value) (hs:a.eval s=v) (hx:a.eval x=v2) (hr:(Builtin.append_ #[t,t] o.type #[v,v2]).run P w=.ok v' w') (h:K (a.put o.dst v') w'):
 if Region.wanted o (yielded ops a.tmps)=true then Oper.wp P o a w K Q else E:=by
 have hw:Region.wanted o (yielded ops a.tmps)=true:=by simp[Region.wanted,hgd]
 rw[if_pos hw];exact VY
section
variable {E G C n gi : Nat} {vs vo : Value} {V : World} {S : List Nat} {O : List Bk} {X : Nat -> Bool}
theorem RT(h:WX E G C n gi vs vo V S O X)(hS:S.length<=16384)(x:Nat):
 ∃g cap w3,(Builtin.append_ #[76,76] 76 #[vs,.slice (some ⟨V.heap.size,0,none⟩) 1 1]).run prog (V.drew.alloc (.cells #[.int .i64 (x:Int)] 3))=.ok (.slice (some ⟨g,0,none⟩) (S.length+1) cap) w3/\Below E V w3/\w3.cell? ⟨G,2,none⟩=some vs/\w3.frozen? ⟨G,2,none⟩=false/\
  WX E G C n gi (.slice (some ⟨g,0,none⟩) (S.length+1) cap) vo (w3.setCell ⟨G,2,none⟩ (.slice (some ⟨g,0,none⟩) (S.length+1) cap)) (S++[x]) O X:=by
 obtain⟨i0,hi0,hz0,hz1,hz2⟩:=info_parts GO;have hb0:Below V.heap.size V (V.drew.alloc (.cells #[.int .i64 (x:Int)] 3)):=bel (A4 V) (A2 _ _);have h0:=h.below hb0;have hlt0:=h.lt;obtain⟨g,cap,w3,hr,hown,hgrow,hat,hlt⟩:=run_append_lies (P:=prog) (V.drew.alloc (.cells #[.int .i64 (x:Int)] 3)) 76 76 E 3 i0 _ 1 8 underlying76 hi0 hz0 hz1 hz2 rfl dE vs S.length (F1 S) h0.set ⟨V.heap.size,0,none⟩ 1 1 [.int .i64 (x:Int)] rfl
  (World.news_of_block (cs:=#[.int .i64 (x:Int)]) (t:=3) (fr:=(0,0)) (heap_alloc_new V.drew _)) Ny dE mL oM sO _ rfl
 obtain⟨k1,k2,-,k4⟩:=h0.grown hgrow (.inr rfl);have hG:=h.g.lt;have hgi:=h.i.lt;have hsz:(V.drew.alloc (.cells #[.int .i64 (x:Int)] 3)).heap.size=V.heap.size+1:=sM;have m2:g≠G:=by
  rcases hat with hat|hat
  .exact fun e=>h.n2 (e▸hat)
  .omega
 have m3:g≠gi:=by
  rcases hat with hat|hat
  .exact fun e=>h.n3 (e▸hat)
  .omega
 have m6:∀b,vo.ownBlock=some b->g≠b:=fun b hb e=>by
  rcases hat with hat|hat
  .exact h.n6 g hat (e▸hb)
  .have:=(h.opn.lt b hb).2;omega
 have hV3:WX E G C n gi vs vo w3 S O X->True:=fun _=>trivial;have hn:(S++[x]).length=S.length+1:=sM;have o4:=k4 rfl;refine⟨g,cap,w3,hr,?_,k1.cell (i:=2) dE,k1.frozen 2,?_⟩
 .exact(hb0.mono hlt0).grown hgrow oM (fun q e=>(h0.set.lt q e).1)
 .have nb:∀b,b≠G->(w3.setCell ⟨G,2,none⟩ (.slice (some ⟨g,0,none⟩) (S.length+1) cap)).heap[b]? =w3.heap[b]? :=fun b hb=>gE hb;refine⟨(k1.set 2 _).congr fun j hj=>?_,k2.of_block (nb _ h.n1),?_,Aa o4 fun b hb=>nb b fun e=>h.n4 (e▸hb),h.hG,h.hgi,h.n1,fun e=>m2 (Option.some.inj e),fun e=>m3 (Option.some.inj e),h.n4,h.n5,fun b e hb=>m6 b hb (Option.some.inj e)⟩
  .exact Wc
  .rw[hn,ON];exact Aa hown fun b hb=>nb b fun e=>m2 (by rw[<-e];exact Option.some.inj hb)
theorem JC(h:WX E G C n gi vs vo V S O X)(hO:O.length<=64)(L:Bool)(P:Int)(A:Nat):
 ∃g cap w3,(Builtin.append_ #[77,77] 77 #[vo,.slice (some ⟨V.heap.size,0,none⟩) 1 1]).run prog (V.drew.alloc (.cells #[.bool L,.int .i64 P,.int .i64 (A:Int)] 153))=.ok (.slice (some ⟨g,0,none⟩) (O.length+1) cap) w3/\Below E V w3/\w3.cell? ⟨G,3,none⟩=some vo/\w3.frozen? ⟨G,3,none⟩=false/\w3.cell? ⟨G,2,none⟩=some vs/\
  (∀a,a.block<V.heap.size->vo.ownBlock≠some a.block->w3.cell? a=V.cell? a)/\
  WX E G C n gi vs (.slice (some ⟨g,0,none⟩) (O.length+1) cap) (w3.setCell ⟨G,3,none⟩ (.slice (some ⟨g,0,none⟩) (O.length+1) cap)) S (⟨L,P,A⟩::O) X:=by
 obtain⟨i0,hi0,hz0,hz1,hz2⟩:=info_parts Lm;have hb0:Below V.heap.size V (V.drew.alloc (.cells #[.bool L,.int .i64 P,.int .i64 (A:Int)] 153)):=bel (A4 V) (A2 _ _);have h0:=h.below hb0;have hlt0:=h.lt;obtain⟨g,cap,w3,hr,hown,hgrow,hat,hlt⟩:=run_append_lies (P:=prog) (V.drew.alloc (.cells #[.bool L,.int .i64 P,.int .i64 (A:Int)] 153)) 77 77 E 153 i0 _ 3 24 underlying77 hi0 hz0 hz1 hz2 rfl dE vo O.length (C8 O.reverse) h0.opn ⟨V.heap.size,0,none⟩ 1 1 (Ub ⟨L,P,A⟩) rfl
  (World.news_of_block (cs:=#[.bool L,.int .i64 P,.int .i64 (A:Int)]) (t:=153) (fr:=(0,0)) (heap_alloc_new V.drew _)) (by simp[Ub,Value.oneCell']) dE mL oM sO _ rfl
 obtain⟨k1,k2,k3,-⟩:=h0.grown hgrow (.inl rfl);have hG:=h.g.lt;have hgi:=h.i.lt;have hsz:(V.drew.alloc (.cells #[.bool L,.int .i64 P,.int .i64 (A:Int)] 153)).heap.size=V.heap.size+1:=sM;have m2:g≠G:=by
  rcases hat with hat|hat
  .exact fun e=>h.n4 (e▸hat)
  .omega
 have m3:g≠gi:=by
  rcases hat with hat|hat
  .exact fun e=>h.n5 (e▸hat)
  .omega
 have m6:∀b,vs.ownBlock=some b->g≠b:=fun b hb e=>by
  rcases hat with hat|hat
  .exact h.n6 b hb (e▸hat)
  .have:=(h.set.lt b hb).2;omega
 have o3:=k3 rfl;refine⟨g,cap,w3,hr,?_,k1.cell (i:=3) dE,k1.frozen 3,k1.cell (i:=2) dE,fun a ha hb=>?_,?_⟩
 .exact(hb0.mono hlt0).grown hgrow oM (fun q e=>(h0.opn.lt q e).1)
 .rw[gC (hgrow.block a.block oM (Ne.symm hb)),hb0.cell ha]
 .have nb:∀b,b≠G->(w3.setCell ⟨G,3,none⟩ (.slice (some ⟨g,0,none⟩) (O.length+1) cap)).heap[b]? =w3.heap[b]? :=fun b hb=>gE hb;refine⟨(k1.set 3 _).congr fun j hj=>?_,k2.of_block (nb _ h.n1),Aa o3 fun b hb=>nb b fun e=>h.n2 (e▸hb),?_,h.hG,h.hgi,h.n1,h.n2,h.n3,fun e=>m2 (Option.some.inj e),fun e=>m3 (Option.some.inj e),fun b hb e=>m6 b hb (Option.some.inj e)⟩
  .exact Wc
  .rw[List.reverse_cons,E8];exact Aa hown fun b hb=>nb b fun e=>m2 (by rw[<-e];exact Option.some.inj hb)
end
structure PS(E G C n gi H:Nat)(L0:Int)(w:World)(t:Wk)(vs vo:Value)(v:World):Prop where
 bel:Below E w v
 st:WS E G C n gi vs vo v t
 box:v.cell? ⟨H,0,none⟩=some (.int .i64 L0)
 n1:H≠G
 n2:H≠gi
theorem Qe(E G C n gi:Nat)(vs vo:Value)(s:Wk)(b o:Nat)(i:Ax)(r:Rw)(w:World)(h:WS E G C n gi vs vo w s)(ok:Df n s)(hn:n<=16384)(hi:Aq w b o (CJ i))(hbE:b<E)
 (hm:i.op=34\/i.op=36->s.opens.length<64) (he:i.op=35\/i.op=37->s.opens≠[]) (hd:r.d≠0->0<=i.d/\i.d<(n:Int)):
 Calls prog 60 #[.pointer (some ⟨G,0,none⟩),.pointer (some ⟨b,o,none⟩),CA r] w fun e w'=>e=.returned (.tuple #[])/\Below E w w'/\∃vs' vo',WS E G C n gi vs' vo' w' (GW s i r):=by
 have e0:=hi.at 0 rfl;have e1:=hi.at 1 rfl;have e5:=hi.at 5 rfl;rw[Nat.add_zero]at e0;have hok:Df n (Fw s i):=ok.turn hm;unfold GW;have htu:Fw s i=if i.op=34\/i.op=36 then⟨s.set,⟨i.op==36,i.n,s.set.length⟩::s.opens⟩else if i.op=35\/i.op=37 then B9 s else s:=rfl;obtain⟨T,hT⟩:=gA (Fw s i)
 rw[hT]at hok htu |-;have HT:Hid (T=if i.op=34\/i.op=36 then⟨s.set,⟨i.op==36,i.n,s.set.length⟩::s.opens⟩else if i.op=35\/i.op=37 then B9 s else s):=htu;clear htu hT;have had:Jz T i r=if r.d≠0/\i.d.toNat∉T.set then⟨T.set++[i.d.toNat],T.opens⟩else T:=rfl;obtain⟨R,hR⟩:=gA (Jz T i r)
 rw[hR]at had |-;have HR:Hid (R=if r.d≠0/\i.d.toNat∉T.set then⟨T.set++[i.d.toNat],T.opens⟩else T):=had;clear had hR hi;have HOK:Hid (Df n T):=hok;obtain⟨io,D,A,B,F,N,bt⟩:=i;obtain⟨L0,L1,L2,L3,L4⟩:=r;simp only at e0 e1 e5 hm he hd HT HR hok;unfold CA;have HD:Hid (L0≠0->0<=D/\D<(n:Int)):=hd;have HS:Hid (WS E G C n gi vs vo w s):=h;have HS1:Hid (WS E G C n gi vs vo (w.alloc (.cells #[.int .i64 L0,.int .i64 L1,.int .i64 L2,.int .i64 L3,.int .i64 L4] 109)) s):=h.below (A2 _ _);have hE:=h.lt;have hG:=h.g.lt;have hgi:=h.i.lt;have nG:G≠w.heap.size:=oM;have ngi:gi≠w.heap.size:=oM;have nbG:b≠G:=by have:=h.hG;omega
 have nbi:b≠gi:=by have:=h.hgi;omega
 have hbw:b≠w.heap.size:=oM;have nGb:G≠b:=Ne.symm nbG;have nib:gi≠b:=Ne.symm nbi;have niG:gi≠G:=h.n1;have nGi:G≠gi:=Ne.symm h.n1;have HB1:Hid (Below E w (w.alloc (.cells #[.int .i64 L0,.int .i64 L1,.int .i64 L2,.int .i64 L3,.int .i64 L4] 109))):=(Below.refl E w).alloc hE _;have HE:Hid (∀v,Below E w v->v.cell? ⟨b,o,none⟩=some (.int .i64 io)/\v.cell? ⟨b,o+1,none⟩=some (.int .i64 D)/\v.cell? ⟨b,o+5,none⟩=some (.int .i64 N)):=fun v hv=>⟨(hv.cell hbE).trans e0,(hv.cell hbE).trans e1,(hv.cell hbE).trans e5⟩
 have HVB:Hid ((w.alloc (.cells #[.int .i64 L0,.int .i64 L1,.int .i64 L2,.int .i64 L3,.int .i64 L4] 109)).cell? ⟨w.heap.size,0,none⟩=some (.int .i64 L0)):=by show _=_;simp[go_sem]
 obtain⟨z0,z1,z5⟩:=HE.out _ HB1.out;have HOS:Hid (Df n s):=ok;have HM:Hid (io=34\/io=36->s.opens.length<64):=hm;have HQ:Hid (io=35\/io=37->s.opens≠[]):=he;clear hd h hok hm he ok e0 e1 e5;go_enter func60,ntmps60;go_upto_block 0 with fail;obtain⟨V,hV⟩:=gA (w.alloc (.cells #[.int .i64 L0,.int .i64 L1,.int .i64 L2,.int .i64 L3,.int .i64 L4] 109))
 have hVs:V.heap.size=w.heap.size+1:=by rw[<-hV];simp
 rw[hV]at HS1 HB1 HVB z0 z1 z5 |-;have HVS:Hid (V.heap.size=w.heap.size+1):=hVs;clear hV hVs;go_cut [10] (fun bv wx=>∃vs1 vo1,PS E G C n gi w.heap.size L0 w T vs1 vo1 wx)
 case first=>
  have c2:=HS1.c2;have c3:=HS1.c3;by_cases h34:io=34
  .have q1:(io==34)=true:=by simpa using h34
   have q2:(io==36)=false:=by have:io≠36:=oM;simpa using this
   obtain⟨g,cap,w3,hr,hb3,c33,f33,c32,hfar,hw3⟩:=JC HS1.x (by have:=HM.out (.inl h34);omega) false N s.set.length;have HT1:Hid (T=⟨s.set,⟨false,N,s.set.length⟩::s.opens⟩):=by show _=_;rw[HT.out,if_pos (.inl h34)];rw[show(io==36)=false from q2]
   obtain⟨pS,cS,hvs⟩:=Ac HS1.set;obtain⟨y0,y1,y5⟩:=HE.out w3 (HB1.trans hb3);have HP:Hid (PS E G C n gi w.heap.size L0 w T vs (.slice (some ⟨g,0,none⟩) (s.opens.length+1) cap) (w3.setCell ⟨G,3,none⟩ (.slice (some ⟨g,0,none⟩) (s.opens.length+1) cap))):=by
    refine⟨(HB1.trans hb3).setCell HS.hG _,?_,?_,oM,oM⟩
    .rw[HT1.out];exact WX.st (s:=⟨s.set,⟨false,N,s.set.length⟩::s.opens⟩) hw3 fun j _=>rfl
    .exact XU
   have HR3:Hid ((Builtin.append_ #[77,77] 77 #[vo,.slice (some ⟨V.heap.size,0,none⟩) 1 1]).run prog ((V.alloc (.cells #[.bool false,.int .i64 N,.int .i64 (s.set.length:Int)] 153)).drew)=.ok (.slice (some ⟨g,0,none⟩) (s.opens.length+1) cap) w3):=hr;subst hvs;have c5:(w3.setCell ⟨G,3,none⟩ (.slice (some ⟨g,0,none⟩) (s.opens.length+1) cap)).cell? ⟨G,2,none⟩=some (.slice pS s.set.length cS):=by rw[World.cell?_setCell_other _ _ _ _ sM];exact c32
   have nG2:G≠V.heap.size:=by have:=HVS.out;omega
   have c4:(V.alloc (.cells #[.bool false,.int .i64 N,.int .i64 (s.set.length:Int)] 153)).cell? ⟨G,3,none⟩=some vo:=kc (A2 _ _) c3;have nb2:b≠V.heap.size:=by have:=HVS.out;omega
   clear hr hb3 hfar hw3 h34;exact Xs
  by_cases h36:io=36
  .have q1:(io==34)=false:=by simpa using h34
   have q2:(io==36)=true:=by simpa using h36
   obtain⟨g,cap,w3,hr,hb3,c33,f33,c32,hfar,hw3⟩:=JC HS1.x (by have:=HM.out (.inr h36);omega) true N s.set.length;have HT1:Hid (T=⟨s.set,⟨true,N,s.set.length⟩::s.opens⟩):=by show _=_;rw[HT.out,if_pos (.inr h36)];rw[show(io==36)=true from q2]
   obtain⟨pS,cS,hvs⟩:=Ac HS1.set;obtain⟨y0,y1,y5⟩:=HE.out w3 (HB1.trans hb3);have HP:Hid (PS E G C n gi w.heap.size L0 w T vs (.slice (some ⟨g,0,none⟩) (s.opens.length+1) cap) (w3.setCell ⟨G,3,none⟩ (.slice (some ⟨g,0,none⟩) (s.opens.length+1) cap))):=by
    refine⟨(HB1.trans hb3).setCell HS.hG _,?_,?_,oM,oM⟩
    .rw[HT1.out];exact WX.st (s:=⟨s.set,⟨true,N,s.set.length⟩::s.opens⟩) hw3 fun j _=>rfl
    .exact XU
   have HR3:Hid ((Builtin.append_ #[77,77] 77 #[vo,.slice (some ⟨V.heap.size,0,none⟩) 1 1]).run prog ((V.alloc (.cells #[.bool true,.int .i64 N,.int .i64 (s.set.length:Int)] 153)).drew)=.ok (.slice (some ⟨g,0,none⟩) (s.opens.length+1) cap) w3):=hr;subst hvs;have c5:(w3.setCell ⟨G,3,none⟩ (.slice (some ⟨g,0,none⟩) (s.opens.length+1) cap)).cell? ⟨G,2,none⟩=some (.slice pS s.set.length cS):=by rw[World.cell?_setCell_other _ _ _ _ sM];exact c32
   have nG2:G≠V.heap.size:=by have:=HVS.out;omega
   have c4:(V.alloc (.cells #[.bool true,.int .i64 N,.int .i64 (s.set.length:Int)] 153)).cell? ⟨G,3,none⟩=some vo:=kc (A2 _ _) c3;have nb2:b≠V.heap.size:=by have:=HVS.out;omega
   clear hr hb3 hfar hw3 h34 h36;exact Xs
  have q1:(io==34)=false:=by simpa using h34
  have q2:(io==36)=false:=by simpa using h36
  have hno:¬ (io=34\/io=36):=fun e=>e.elim h34 h36;by_cases h35:io=35\/io=37
  .have HT1:Hid (T=B9 s):=by show _=_;rw[HT.out,if_neg hno,if_pos h35]
   have HK:Hid (Calls prog 99 #[.pointer (some ⟨G,0,none⟩)] V fun e w'=>e=.returned (.tuple #[])/\Below E V w'/\(∀k,k<V.heap.size->k≠G->k≠gi->w'.heap[k]? =V.heap[k]?)/\∃vs' vo',WS E G C n gi vs' vo' w' (B9 s)):=Oe E G C n gi vs vo s V HS1.out HOS.out hn (HQ.out h35);rcases h35 with h|h
   .have q3:(io==35)=true:=by simpa using h
    exact XK
   .have q3:(io==35)=false:=by have:io≠35:=oM;simpa using this
    have q4:(io==37)=true:=by simpa using h
    exact XK
  .have HT1:Hid (T=s):=by show _=_;rw[HT.out,if_neg hno,if_neg h35]
   have q3:(io==35)=false:=by have:io≠35:=(fun e=>h35 (.inl e));simpa using this
   have q4:(io==37)=false:=by have:io≠37:=(fun e=>h35 (.inr e));simpa using this
   have HP:Hid (PS E G C n gi w.heap.size L0 w T vs vo V):=⟨HB1.out,by rw[HT1.out];exact HS1.out,HVB.out,oM,oM⟩
   clear h34 h35 h36 hno;go_wp2;go_meet;exact⟨_,_,HP.out⟩
 case rest=>
  obtain⟨vs1,vo1,ps⟩:=hcut;clear HS1 HB1 HVB z0 z1 z5 HVS HS HOS HM HQ HT;have HPS:Hid (PS E G C n gi w.heap.size L0 w T vs1 vo1 wc):=ps;have bx:=ps.box;have d1:=ps.st.c1;have hX:=ps.st.i;obtain⟨y0,y1,y5⟩:=HE.out wc ps.bel;clear ps;by_cases hz:L0=0
  .have hz':(L0 != 0)=false:=by simpa using hz
   have hz2:(L0==0)=true:=by simpa using hz
   have HR1:Hid (R=T):=by show _=_;rw[HR.out,if_neg (fun e=>e.1 hz)]
   clear hz;go_wp2;refine rG (fun v=>v.cell? ⟨w.heap.size,0,none⟩=some (.int .i64 L0)) fun yH=>?_;refine Tc 0 1 2 ?_;refine Bn 3 ?_;refine Kd 4 5 6 7 ?_;refine Kd 8 9 10 11 ?_;refine Cu 12 ?_;refine Cu 13 ?_;refine Cu 14 ?_;refine Bn 15 ?_;refine wpAnyH_done kR ?_ _;go_wp2;first|go_end0|(simp only[Exit.inBlock,Exit.then];refine bodyPost_ret (results_none rfl _ _ _) rfl ?_)|refine bodyPost_ret (results_none rfl _ _ _) rfl ?_
   exact⟨rfl,HPS.bel.drew,_,_,by rw[HR1.out];exact HPS.st.below (A4 _)⟩
  .have hz':(L0 != 0)=true:=by simpa using hz
   have hz2:(L0==0)=false:=by simpa using hz
   obtain⟨hD0,hDn⟩:=HD.out hz;obtain⟨x,rfl⟩:∃x:Nat,D=(x:Int):=⟨D.toNat,oM⟩
   have hxn:x<n:=oM;have v1:=hX.cell hxn;have v2:=hX.frozen x;rw[Int.toNat_natCast]at HR;have HR1:Hid (R=if x∉T.set then⟨T.set++[x],T.opens⟩else T):=by
    show _=_;rw[HR.out];by_cases hx:x∈T.set
    .rw[if_neg (fun e=>e.2 hx),if_neg (fun e=>e hx)]
    .rw[if_pos ⟨hz,hx⟩,if_pos hx]
   clear hX HR hz;by_cases hx:x∈T.set
   .have hdec:decide (x∈T.set)=true:=by simpa using hx
    have HR2:Hid (R=T):=by show _=_;rw[HR1.out,if_neg (fun e=>e hx)]
    rw[hdec]at v1;clear HR1 hx;go_wp2;refine rG (fun v=>v.cell? ⟨w.heap.size,0,none⟩=some (.int .i64 L0)/\v.cell? ⟨b,o+1,none⟩=some (.int .i64 (x:Int))/\v.cell? ⟨G,1,none⟩=some (.slice (some ⟨gi,0,none⟩) n n)/\v.cell? ⟨gi,x,none⟩=some (.bool true)) fun yH=>?_;refine Tf 0 1 2 3 4 5 ?_;refine Tf 6 7 8 9 10 11 ?_;refine Tc 12 13 14 ?_;refine Bn 15 ?_;refine wpAnyH_done kR ?_ _;go_wp2;first|go_end0|(simp only[Exit.inBlock,Exit.then];refine bodyPost_ret (results_none rfl _ _ _) rfl ?_)|refine bodyPost_ret (results_none rfl _ _ _) rfl ?_
    exact⟨rfl,HPS.bel.drew,_,_,by rw[HR2.out];exact HPS.st.below (A4 _)⟩
   .have hdec:decide (x∈T.set)=false:=by simpa using hx
    have HR2:Hid (R=⟨T.set++[x],T.opens⟩):=by show _=_;rw[HR1.out,if_pos hx]
    rw[hdec]at v1;have HNX:Hid (x∉T.set):=hx;clear HR1 hx;obtain⟨V2,hV2⟩:=gA ((wc.setCell ⟨gi,x,none⟩ (.bool true)).drew.drew)
    have HV2:Hid ((wc.setCell ⟨gi,x,none⟩ (.bool true)).drew.drew=V2):=hV2;have hW2:WX E G C n gi vs1 vo1 V2 T.set T.opens (fun j=>if j=x then true else decide (j∈T.set)):=by rw[<-hV2];exact((HPS.st.x.put x true).below (A4 _)).below (A4 _)
    have hB2:Below E w V2:=by rw[<-hV2];exact(HPS.bel.setCell HPS.st.hgi _).drew.drew
    obtain⟨g,cap,w3,hr,hb3,c32,f32,hw3⟩:=RT hW2 (gH HOK.len hn) x;have HR3:Hid ((Builtin.append_ #[76,76] 76 #[vs1,.slice (some ⟨V2.heap.size,0,none⟩) 1 1]).run prog ((V2.alloc (.cells #[.int .i64 (x:Int)] 3)).drew)=.ok (.slice (some ⟨g,0,none⟩) (T.set.length+1) cap) w3):=hr;obtain⟨_,u1,_⟩:=HE.out V2 hB2;obtain⟨_,u3,_⟩:=HE.out w3 (hB2.trans hb3);have u2:=hW2.c2;have u4:(V2.alloc (.cells #[.int .i64 (x:Int)] 3)).cell? ⟨G,2,none⟩=some vs1:=kc (A2 _ _) u2;have nG3:G≠V2.heap.size:=by have:=hW2.g.lt;omega
    have nb3:b≠V2.heap.size:=by have:=hW2.g.lt;have:=hW2.hG;omega
    have HF:Hid (Below E w (w3.setCell ⟨G,2,none⟩ (.slice (some ⟨g,0,none⟩) (T.set.length+1) cap))/\WS E G C n gi (.slice (some ⟨g,0,none⟩) (T.set.length+1) cap) vo1 (w3.setCell ⟨G,2,none⟩ (.slice (some ⟨g,0,none⟩) (T.set.length+1) cap)) R):=by
     refine⟨(hB2.trans hb3).setCell hW2.hG _,?_⟩;rw[HR2.out];refine WX.st (s:=⟨T.set++[x],T.opens⟩) hw3 fun j _=>?_;by_cases hj:j=x
     .subst hj;simp
     .rw[if_neg hj];simp[hj]
    have i5:(0:Int)<=(x:Int):=oM;have i6:(x:Int)<(n:Int):=oM;clear hr hb3 hw3 hW2 hB2 hV2;go_wp2;refine rG (fun v=>v.cell? ⟨w.heap.size,0,none⟩=some (.int .i64 L0)/\v.cell? ⟨b,o+1,none⟩=some (.int .i64 (x:Int))/\v.cell? ⟨G,1,none⟩=some (.slice (some ⟨gi,0,none⟩) n n)/\v.cell? ⟨gi,x,none⟩=some (.bool false)) fun yH=>?_;refine Tf 0 1 2 3 4 5 ?_;refine Tf 6 7 8 9 10 11 ?_;refine Tc 12 13 14 ?_;refine Bn 15 ?_;refine wpAnyH_done kR ?_ _;go_wp2;refine rG (fun v=>v.cell? ⟨b,o+1,none⟩=some (.int .i64 (x:Int))/\v.cell? ⟨G,1,none⟩=some (.slice (some ⟨gi,0,none⟩) n n)) fun yH=>?_;refine Tf 0 1 2 3 4 5 ?_;refine Tc 6 7 8 ?_;clear yH;refine Aw 9 fun K hK=>?_;go_simp;refine AU hK fun yH=>?_;clear hK K;refine wpAnyH_done kR ?_ _;go_wp2;rw[HV2.out];refine rG (fun v=>v.cell? ⟨b,o+1,none⟩=some (.int .i64 (x:Int))) fun yH=>?_;refine Tf 0 1 2 3 5 6 ?_;refine Tb 7 8 ?_;clear yH;refine wpAnyH_ready (rs:=[4,9]) kR sM ?_;refine GB 4 (fun K hK=>?_) ?_
    .go_simp;refine AU hK fun yH=>?_;clear hK K;clear yH;refine Aw 9 fun K hK=>?_;exact XF
    refine GB 9 (fun K hK=>?_) AllReadyH.nil;go_simp;refine AU hK fun yH=>?_;clear hK K;clear yH;refine Aw 4 fun K hK=>?_;exact XF
section
open Go.Lib (decDigits)
theorem TL{t:Ty}{n:Nat}(h:AG t n=true)(hn:n<=1000000):EE t:=by
 unfold AG at h;by_cases h1:t.kind=1\/t.kind=2
 .rw[if_pos h1]at h;have hp:t.par=0:=by simpa using h
  rcases h1 with q|q
  .exact .inl ⟨q,hp⟩
  .exact .inr (.inl ⟨q,hp⟩)
 .rw[if_neg h1]at h;by_cases h3:t.kind=3
  .rw[if_pos h3]at h;have:=EV.1 h;exact .inr (.inr ⟨h3,oM,oM⟩)
  .rw[if_neg h3]at h;cases h
theorem VC{s:Sl}{n:Nat}(h:Bb s n=true)(hn:n<=1000000)(hb:0<=s.bits/\s.bits<4294967296):Hv s:=by
 unfold Bb ES at h;simp only[Bool.and_eq_true]at h;refine⟨TL h.1 hn,?_⟩;have h2:=h.2;by_cases hk:s.ty.kind=2
 .rw[if_pos hk]at h2 |-;unfold Go.Proofs.YtjlpkjblkllfbaaGreatDoor.wholeB at h2;simpa using h2
 .rw[if_neg hk]at h2 |-;simp only[Bool.and_eq_true,beq_iff_eq]at h2;exact⟨h2.1,hb⟩
theorem Sv{rs:List Ty}{l n:Int}{m:Ty}(h:Ae rs l n m=true)(hl:rs.length<=1000000):MN l n:=by
 unfold MN;by_cases h0:l=0
 .rw[if_pos h0];unfold Ae at h;rw[if_pos h0]at h;simpa using h
 .rw[if_neg h0];have:=EV.1 (Uk h h0);omega
theorem VF:∀n:Nat,n<38->(A5 (n:Int)).n=0\/(A5 (n:Int)).n=7\/(A5 (n:Int)).n=8\/(A5 (n:Int)).n=9\/(A5 (n:Int)).n=10\/(A5 (n:Int)).n=11:=by decide+kernel
theorem Xg{c:Cd}{i:Ax}{l:Int}{m:Ty}(hl:l=0\/l=7\/l=8\/l=9\/l=10\/l=11)(h:BO c i l m=true)(h1:c.slots.length<=1000000)(h2:c.sign.length<=1000000)(hb:0<=i.bits/\i.bits<4294967296):Ol l i.n i.bits:=by
 unfold BO at h;unfold Ol;by_cases h7:l=7
 .rw[if_pos h7]at h |-;simp only[Bool.and_eq_true,beq_iff_eq]at h;exact⟨h.1,hb⟩
 .rw[if_neg h7]at h |-;simp only[Bool.and_eq_true,beq_iff_eq]at h;obtain⟨hz,hf⟩:=h;unfold I9 at hf;by_cases h0:l=0
  .rw[if_pos h0];rw[if_neg oM,if_neg oM,if_neg oM,if_neg oM]at hf;exact⟨by simpa using hf,hz⟩
  .rw[if_neg h0];refine⟨hz,?_⟩;rcases hl with q|q|q|q|q|q
   .exact absurd q h0
   .exact absurd q h7
   .rw[if_pos q]at hf;unfold Go.Proofs.YtjlpkjblkllfbaaGreatDoor.wholeB at hf;simpa using hf
   .rw[if_neg oM,if_pos q]at hf;simp only[Bool.or_eq_true,Bool.and_eq_true,beq_iff_eq]at hf;omega
   .rw[if_neg oM,if_neg oM,if_pos q]at hf;simp only[Bool.and_eq_true]at hf;have:=EV.1 hf.1;omega
   .rw[if_neg oM,if_neg oM,if_neg oM,if_pos q]at hf;have:=EV.1 hf;omega
theorem VB{c:Cd}{s:Wk}{i:Ax}(h:Tk c s i)(hA:Ah c)(hs:c.sign.length<=1000000)(hb:0<=i.bits/\i.bits<4294967296):ED i:=by
 have h1:=hA.regs;have h2:=hA.slots;obtain⟨N,hN⟩:∃N:Nat,i.op=(N:Int):=⟨i.op.toNat,by have:=h.known;omega⟩
 exact⟨h.known,Sv h.d oM,Sv h.a oM,Sv h.b oM,Sv h.e oM,Xg (by rw[hN];exact VF N (by have:=h.known;omega)) h.n oM hs hb⟩
theorem Q2(c:Cd)(hA:Ah c)(hs:c.sign.length<=1000000):∀ (l:List Ax) (s:Wk),F6 c s l=true->(∀i∈l,0<=i.bits/\i.bits<4294967296)->∀i∈l,ED i
 |[],_,_,_,i,hi=>by cases hi
 |j::l,s,h,hb,i,hi=>by
  simp only[F6,Bool.and_eq_true]at h;rcases List.mem_cons.1 hi with rfl|hi
  .exact VB (UX.1 h.1) hA hs (hb _ sM)
  .exact Q2 c hA hs l _ h.2 (fun k hk=>hb k (List.mem_cons_of_mem _ hk)) i hi
def wl(ws:List Bs):Nat:=(ws.map fun w=>w.length+1).sum
theorem JQ:∀ws:List Bs,(A7 ws).length<=wl ws
 |[]=>gJ _
 |[a]=>by simp[A7,wl]
 |a::b::r=>by
  have:=JQ (b::r);simp only[A7,List.length_append,List.length_cons,wl,List.map_cons,List.sum_cons]at this |-;omega
theorem Hm(a b:List Bs):wl (a++b)=wl a+wl b:=by simp[wl]
theorem Bq(a:Bs)(b:List Bs):wl (a::b)=a.length+1+wl b:=by simp[wl]
theorem En:∀ (ls:List (List Bs)) (B:Nat),(∀w∈ls,wl w<=B)->((ls.map A7).flatMap fun x=>x++[10]).length<=ls.length*(B+1)
 |[],B,_=>by simp
 |w::ls,B,h=>by
  have h1:=En ls B (fun x hx=>h x (List.mem_cons_of_mem _ hx));have h2:=JQ w;have h3:=h w sM;rw[List.map_cons,List.flatMap_cons,List.length_append,List.length_append,List.length_singleton,List.length_cons,Nat.add_mul,Nat.one_mul];omega
theorem Bg{n:Int}(h1:n<=2147483647):(Ao n).length<=10:=EU 9 n.toNat oM
theorem MA(a:Int):(BC a).length=8:=rfl
theorem Nu{t:Ty}(h:EE t):wl (AT t)<=18:=by
 unfold AT;split
 .exact(by decide:wl [Bp]<=18)
 .split
  .exact(by decide:wl [BV]<=18)
  .have hp:t.par<=2147483647:=by rcases h with⟨_,q⟩|⟨_,q⟩|⟨_,_,q⟩<;>omega
   have:=Bg hp;rw[Bq,Bq];have:AW.length=6:=rfl;have:wl []=0:=rfl;omega
theorem SE{p:Bc}(h:AK p=true):wl (Bh p)<=90:=by
 obtain⟨_,hk,h1,h2⟩:=FT h;have h3:=Bg (n:=p.len) oM;have h4:p.name.size<=64:=by
  unfold AK B1 at h;simp only[Bool.and_eq_true,decide_eq_true_eq]at h;exact h.1.1.1.2
 have h5:(bs p.name).length=p.name.size:=A9 _;have h6:(C1 p.kind).length<=7:=by unfold C1;split<;>decide
 have h7:AN.length=5:=rfl;have h8:wl []=0:=rfl;unfold Bh;rw[Bq,Bq,Bq,Bq];omega
theorem SY{n:Nat}{t:Ty}(hn:n<=1000000)(h:EE t):wl (CI (n:Int) t)<=33:=by
 have h1:=Nu h;have h2:=Bg (n:=(n:Int)) oM;have h3:BU.length=3:=rfl;unfold CI;rw[Bq,Bq];omega
theorem Rs{n:Nat}{s:Sl}(hn:n<=1000000)(h:Hv s):wl (Bv (n:Int) s)<=51:=by
 have h1:=Nu h.1;have h2:=Bg (n:=(n:Int)) oM;have h3:B7.length=4:=rfl;have h4:(if s.keep=true then At else Av).length<=5:=by split<;>decide
 have h5:(if s.ty.kind=2 then Ao s.int_ else BC s.bits).length<=10:=by
  have h9:=h.2;by_cases hk:s.ty.kind=2
  .rw[if_pos hk]at h9 |-;exact Bg h9.2.2
  .rw[if_neg hk,MA];omega
 have h6:wl []=0:=rfl;unfold Bv;rw[Bq,Bq,Bq,Hm,Bq];omega
theorem Gv{l n:Int}(h:MN l n):wl (CU l n)<=12:=by
 unfold MN at h;unfold CU;by_cases h0:l=0
 .rw[if_pos h0];exact gJ _
 .rw[if_neg h0]at h |-;have h1:=Bg h.2;have h2:(LS n).length=(Ao n).length+1:=rfl;have h6:wl []=0:=rfl;rw[Bq];omega
theorem S0{l n b:Int}(h:Ol l n b):wl (DR l n b)<=11:=by
 unfold Ol at h;unfold DR;have h6:wl []=0:=rfl;by_cases h7:l=7
 .rw[if_pos h7,Bq,MA];omega
 .rw[if_neg h7]at h |-;by_cases h0:l=0
  .rw[if_pos h0];omega
  .rw[if_neg h0]at h |-;have:=Bg h.2.2;rw[Bq];omega
theorem It:∀k:Nat,k<37->(DS ((k:Int)+1)).length<=6:=by decide+kernel
theorem S6{i:Ax}(h:ED i):wl (AJ i)<=66:=by
 obtain⟨⟨h1,h2⟩,hd,ha,hb,hc,he⟩:=h;obtain⟨k,hk⟩:∃k:Nat,i.op=(k:Int)+1:=⟨(i.op-1).toNat,oM⟩
 have h3:(DS i.op).length<=6:=by rw[hk];exact It k oM
 have:=Gv hd;have:=Gv ha;have:=Gv hb;have:=Gv hc;have:=S0 he;unfold AJ;rw[Bq,Hm,Hm,Hm,Hm];omega
theorem FV:∀ (l:List Ty) (n:Nat) (w:List Bs),w∈Bu n l->∃ (k:Nat) (t:Ty),k<n+l.length/\t∈l/\w=CI (k:Int) t
 |[],n,w,h=>by cases h
 |t::l,n,w,h=>by
  rcases List.mem_cons.1 h with rfl|h
  .exact⟨n,t,by rw[List.length_cons];omega,sM,rfl⟩
  .obtain⟨k,t',h1,h2,h3⟩:=FV l (n+1) w h;exact⟨k,t',by rw[List.length_cons];omega,List.mem_cons_of_mem _ h2,h3⟩
theorem F3:∀ (l:List Sl) (n:Nat) (w:List Bs),w∈B2 n l->∃ (k:Nat) (t:Sl),k<n+l.length/\t∈l/\w=Bv (k:Int) t
 |[],n,w,h=>by cases h
 |t::l,n,w,h=>by
  rcases List.mem_cons.1 h with rfl|h
  .exact⟨n,t,by rw[List.length_cons];omega,sM,rfl⟩
  .obtain⟨k,t',h1,h2,h3⟩:=F3 l (n+1) w h;exact⟨k,t',by rw[List.length_cons];omega,List.mem_cons_of_mem _ h2,h3⟩
theorem IA:∀ (l:List Ty) (n:Nat),(Bu n l).length=l.length
 |[],n=>rfl
 |t::l,n=>by simp[Bu,IA l (n+1)]
theorem Hi:∀ (l:List Sl) (n:Nat),(B2 n l).length=l.length
 |[],n=>rfl
 |t::l,n=>by simp[B2,Hi l (n+1)]
structure RH(c:Cd):Prop where
 sign:∀p∈c.sign,AK p=true
 regs:∀t∈c.regs,EE t
 slots:∀s∈c.slots,Hv s
 list:∀i∈c.list,ED i
 s:c.sign.length<=64
 r:c.regs.length<=16384
 l:c.slots.length<=4096
 i:c.list.length<=32768
theorem Q1{c:Cd}(hc:(AH c).1=0)(hs:∀s∈c.slots,0<=s.bits/\s.bits<4294967296)(hi:∀i∈c.list,0<=i.bits/\i.bits<4294967296):RH c:=by
 obtain⟨h1,h2,h3⟩:=NO.1 hc;have hA:=U8.1 h1;have hsl:=NP hA.sign;exact⟨Rn hA.sign,fun t ht=>TL (List.all_eq_true.1 hA.types t ht) oM,fun s hs'=>VC (List.all_eq_true.1 hA.begun s hs') oM (hs s hs'),Q2 c hA oM c.list _ h2 hi,hsl,hA.regs,hA.slots,hA.list⟩
theorem L7{c:Cd}(h:RH c):∀w∈Fb c,w≠[]/\∀x∈w,Br x:=by
 intro w hw;unfold Fb at hw;rcases List.mem_append.1 hw with hw|hw
 .obtain⟨p,hp,rfl⟩:=List.mem_map.1 hw;exact⟨by simp[Bh],Iw (h.sign p hp)⟩
 rcases List.mem_append.1 hw with hw|hw
 .obtain⟨k,t,_,_,rfl⟩:=FV _ _ _ hw;exact⟨by simp[CI],Iy _ t⟩
 rcases List.mem_append.1 hw with hw|hw
 .obtain⟨k,t,_,_,rfl⟩:=F3 _ _ _ hw;exact⟨by simp[Bv],Hf _ t⟩
 .obtain⟨i,hi,rfl⟩:=List.mem_map.1 hw;exact⟨by simp[AJ],Ii (h.list i hi)⟩
theorem Ij:∀ws:List Bs,(∀w∈ws,Br w)->∀b∈A7 ws,nb b≠10
 |[],_,b,hb=>by cases hb
 |[a],h,b,hb=>(h a sM b hb).2
 |a::c::r,h,b,hb=>by
  rcases List.mem_append.1 hb with hb|hb
  .exact(h a sM b hb).2
  .rcases List.mem_cons.1 hb with rfl|hb
   .decide
   .exact Ij (c::r) (fun w hw=>h w (List.mem_cons_of_mem _ hw)) b hb
theorem Ma{c:Cd}(h:RH c):∀l∈Dp c,∀b∈l,nb b≠10:=by
 intro l hl;rcases List.mem_cons.1 hl with rfl|hl
 .decide
 .obtain⟨w,hw,rfl⟩:=List.mem_map.1 hl;exact Ij w (L7 h w hw).2
theorem Ul{c:Cd}(h:RH c):∃st,FA (0,BD) 2 ((Fb c).map A7)=.ok (st,c):=by
 unfold Fb;rw[List.map_append,List.map_append,List.map_append];have h1:=Mw c.sign BD 2 h.sign;rw[FH _ _ _ _ _ h1];obtain⟨s2,b2,h2⟩:=Mx c.regs 0 ⟨BD.sign++c.sign,BD.regs,BD.slots,BD.list⟩ (2+((c.sign.map Bh).map A7).length) dE (by have:=h.r;show 0+c.regs.length<=_;omega) h.regs;have h2:FA (0,⟨BD.sign++c.sign,BD.regs,BD.slots,BD.list⟩) (2+((c.sign.map Bh).map A7).length) ((Bu 0 c.regs).map A7)=.ok (s2,⟨BD.sign++c.sign,BD.regs++c.regs,BD.slots,BD.list⟩):=h2;rw[FH _ _ _ _ _ h2];obtain⟨s3,b3,h3⟩:=JN c.slots s2 ⟨BD.sign++c.sign,BD.regs++c.regs,BD.slots,BD.list⟩ (2+((c.sign.map Bh).map A7).length+((Bu 0 c.regs).map A7).length) oM (by have:=h.l;show 0+c.slots.length<=_;omega) h.slots;have h3:FA (s2,⟨BD.sign++c.sign,BD.regs++c.regs,BD.slots,BD.list⟩) (2+((c.sign.map Bh).map A7).length+((Bu 0 c.regs).map A7).length) ((B2 0 c.slots).map A7)=.ok (s3,⟨BD.sign++c.sign,BD.regs++c.regs,BD.slots++c.slots,BD.list⟩):=h3;rw[FH _ _ _ _ _ h3];obtain⟨s4,h4⟩:=Mv c.list s3 ⟨BD.sign++c.sign,BD.regs++c.regs,BD.slots++c.slots,BD.list⟩ (2+((c.sign.map Bh).map A7).length+((Bu 0 c.regs).map A7).length+((B2 0 c.slots).map A7).length) h.list;exact⟨s4,h4⟩
theorem Hk{c:Cd}(h:RH c):(D5 c).length<=3000000:=by
 have e:D5 c=B5++[10]++(((c.sign.map Bh).map A7).flatMap (fun x=>x++[10])++(((Bu 0 c.regs).map A7).flatMap (fun x=>x++[10])++(((B2 0 c.slots).map A7).flatMap (fun x=>x++[10])++((c.list.map AJ).map A7).flatMap (fun x=>x++[10])))):=by
  unfold D5 Dp Fb;rw[List.flatMap_cons,List.map_append,List.map_append,List.map_append,List.flatMap_append,List.flatMap_append,List.flatMap_append]
 have h1:=En (c.sign.map Bh) 90 (fun w hw=>by obtain⟨p,hp,rfl⟩:=List.mem_map.1 hw;exact SE (h.sign p hp));have h2:=En (Bu 0 c.regs) 33 (fun w hw=>by obtain⟨k,t,hk,ht,rfl⟩:=FV _ _ _ hw;exact SY (by have:=h.r;omega) (h.regs t ht));have h3:=En (B2 0 c.slots) 51 (fun w hw=>by obtain⟨k,t,hk,ht,rfl⟩:=F3 _ _ _ hw;exact Rs (by have:=h.l;omega) (h.slots t ht));have h4:=En (c.list.map AJ) 66 (fun w hw=>by obtain⟨i,hi,rfl⟩:=List.mem_map.1 hw;exact S6 (h.list i hi));rw[List.length_map]at h1 h4;rw[IA]at h2;rw[Hi]at h3;rw[e];simp only[List.length_append];have:=h.s;have:=h.r;have:=h.l;have:=h.i;have h5:B5.length=7:=rfl;have h6:([10]:Bs).length=1:=rfl;omega
theorem LC{c:Cd}(hc:(AH c).1=0)(h:RH c):BT (D5 c)=(c,0,0):=by
 have hs:=Hk h;unfold BT;rw[if_neg oM];have hcut:Bw [] (D5 c)=(Dp c,[]):=JH (Dp c) (Ma h);rw[hcut];show(if B5≠B5 then(BD,(250:Int),(1:Int))else NY ((Fb c).map A7) [] (FA (0,BD) 2 ((Fb c).map A7)))=_;rw[if_neg (fun e=>e rfl)];obtain⟨st,hg⟩:=Ul h;rw[hg];simp only[NY,hc,ne_eq,not_true_eq_false,if_false]
end
end Go.Proofs.YtjlpkjblkllfbaaGreatDoor
