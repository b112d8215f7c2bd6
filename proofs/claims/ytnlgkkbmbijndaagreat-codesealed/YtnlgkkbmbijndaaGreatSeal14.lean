import Derived.Test.YtnlgkkbmbijndaaGreatSeal10
import Derived.Test.YtnlgkkbmbijndaaGreatSeal12
import Derived.Deep.DeepCutAuto
import Derived.Test.YtnlgkkbmbijndaaGreatSeal13
import Derived.Defers
import Derived.Recover
import Derived.Laws.Pointers
import Derived.Test.YtnlgkkbmbijndaaGreatSeal9
import Derived.Test.YtnlgkkbmbijndaaGreatSeal11
import Derived.Laws.IdiomStrings
import Derived.Test.YtnlgkkbmbijndaaGreatSeal1
namespace Go.Proofs.YtnlgkkbmbijndaaGreat
open Go.RowKit Go.Proofs.Tryz
set_option linter.all false
set_option maxRecDepth 100000
set_option maxHeartbeats 16000000
theorem Mb(a b:ByteArray)(ha:b.size<=a.size)(hs:a.size<=1000)(w:World):
 Calls prog 82 #[.string a,.string b] w fun e w'=>e=.returned (.bool ((a.extract 0 b.size).toList==b.toList))/\w'=w:=by
 obtain⟨M,hM⟩:=gA (a.size)
 obtain⟨N,hN⟩:=gA (b.size)
 have e1:(N:Int)<=(M:Int):=oM;have e2:(0:Int)<=(N:Int):=oM;have e3:N<=M:=oM;rw[hN];clear ha;go_enter func82,ntmps82;go_wp2;refine bodyPost_ret (by simp[results,results82,go_sem, *];try rfl) rfl ?_;exact⟨rfl,rfl⟩
theorem GZ{a b:ByteArray}(h:Ab a=Ab b):a=b:=by rw[<-DB a,h,DB]
theorem T7(a b:ByteArray):(a.toList==b.toList)=decide (Ab a=Ab b):=by
 have h:a.toList=b.toList↔Ab a=Ab b:=by
  rw[ByteArray.toList_eq,ByteArray.toList_eq];constructor
  .intro h;unfold Ab;rw[h]
  .intro h;rw[GZ h]
 by_cases q:Ab a=Ab b
 .rw[decide_eq_true q,h.2 q];simp
 .rw[decide_eq_false q];simpa[<-h]using q
def NY:ByteArray:=⟨#[108,116,104,49]⟩
theorem OM:Ab NY=GP:=rfl
theorem LP(E RB:Nat)(s:ByteArray)(w:World)(h:BB E RB s 0 w)(hs:s.size<=281474976710656)(hE:E<=w.heap.size):
 Calls prog 49 #[.pointer (some ⟨RB,0,none⟩)] w (AX E RB s w (fun(_:Unit)=>.tuple #[]) (Fz (Ab s) 0)):=by
 obtain⟨N,hN⟩:=gA (s.size)
 obtain⟨K,hK⟩:=gA (min N 4)
 have hm:min (N:Int) 4=(K:Int):=oM;have hd:Below w.heap.size w w.drew:=(Below.refl _ _).drew;obtain⟨V,hV⟩:=gA (w.drew)
 rw[hV]at hd;have hmV:=h.below hd;have D1:BY E RB s 0 w V:=(BY.start h).below hE hd;obtain⟨t,ht⟩:=gA (s.extract 0 K)
 have htb:Ab t=(Ab s).take K:=by
  rw[<-ht];have h9:=BK s 0 K;rw[Nat.zero_add,List.drop_zero]at h9;exact h9
 have hts:t.size=K:=by rw[<-Ah,htb,List.length_take,Ah];omega
 have KP:Calls prog 82 #[.string NY,.string t] V fun e w'=>e=.returned (.bool (decide ((Ab s).take K=GP.take K)))/\w'=V:=by
  refine(Mb NY t (by rw[hts];show K<=4;omega) dE V).mono ?_;rintro e w' ⟨e1,e2⟩;refine⟨?_,e2⟩;rw[e1,T7,hts,htb];have h9:=BK NY 0 K;rw[Nat.zero_add,List.drop_zero,OM]at h9;rw[h9];congr 2;exact decide_eq_decide.2 ⟨fun q=>q.symm,fun q=>q.symm⟩
 unfold NY at KP;have KT:Calls prog 83 #[.pointer (some ⟨RB,0,none⟩),.int .i64 4] V (AX E RB s V (fun l=>.string (F5 l)) (Bg 4 ((Ab s).drop 0) 0)):=Gm E RB s 0 4 V hmV (gI _) hs dE (gH hE D1.2.1.1);rw[List.drop_zero]at KT;obtain⟨R,hR⟩:=gA (Fz (Ab s) 0)
 rw[hR];unfold Fz at hR;rw[Ah,hN,hK]at hR;have c0:=h.c0;have i1:(0:Int)<=(K:Int):=oM;have i2:(K:Int)<=(N:Int):=oM;have i3:K<=N:=oM;have HD1:=A6 D1;have KP':=A6 KP;have KT':=A6 KT;have HT:=A6 ht;have HV:=A6 hV;clear h hd hmV D1 htb hts KP KT hV;by_cases q:(Ab s).take K=GP.take K
 .rw[if_neg (by simpa using q)]at hR;rw[decide_eq_true q]at KP';by_cases q4:N<4
  .rw[if_pos q4]at hR;have h9:Bg 4 (Ab s) 0=.error (242,0):=by unfold Bg;rw[if_pos (by rw[Ah,hN];exact q4)]
   rw[h9]at KT';unfold AX B2 at KT';simp only at KT';have HG:Hid (∀w',Below E V w'->B5 RB V w'->AX E RB s w (fun(_:Unit)=>Value.tuple #[]) R (B2 242 0) w'):=fun w' a b=>by rw[<-hR];exact HD1.bad _ 242 0 a b
   unfold B2 at HG;clear q q4 h9 hR hK;go_enter func49,ntmps49;go_upto_region 0 with fail;refine rG (fun v=>v.cell? ⟨RB,0,none⟩=some (.string s)) fun hJ=>?_;refine wpAnyH_take (i:=0) (v:=?_) A8 kR kR kR A9 (Or.inl ⟨rF,?_⟩) Aa ?_
   rotate_left 1
   ·(intro wS hSw;(try dsimp only at hSw);go_simp;try(with_reducible rfl))
   try simp only[Act.put,List.setIfInBounds_toArray,List.set_cons_zero,List.set_cons_succ]
   refine wpAnyH_take (i:=1) (v:=?_) A8 kR kR kR A9 (Or.inl ⟨rF,?_⟩) Aa ?_
   rotate_left 1
   ·(intro wS hSw;(try dsimp only at hSw);go_simp;try(with_reducible rfl))
   try simp only[Act.put,List.setIfInBounds_toArray,List.set_cons_zero,List.set_cons_succ]
   refine wpAnyH_take (i:=2) (v:=?_) A8 kR kR kR A9 (Or.inl ⟨rF,?_⟩) Aa ?_
   rotate_left 1
   ·(intro wS hSw;(try dsimp only at hSw);go_simp;try(with_reducible rfl))
   try simp only[Act.put,List.setIfInBounds_toArray,List.set_cons_zero,List.set_cons_succ]
   refine wpAnyH_take (i:=3) (v:=?_) A8 kR kR kR A9 (Or.inl ⟨rF,?_⟩) Aa ?_
   rotate_left 1
   ·(intro wS hSw;(try dsimp only at hSw);go_simp;try(with_reducible rfl))
   try simp only[Act.put,List.setIfInBounds_toArray,List.set_cons_zero,List.set_cons_succ]
   refine wpAnyH_take (i:=4) (v:=?_) A8 kR kR kR A9 (Or.inl ⟨rF,?_⟩) Aa ?_
   rotate_left 1
   ·(intro wS hSw;(try dsimp only at hSw);go_simp;try(with_reducible rfl))
   try simp only[Act.put,List.setIfInBounds_toArray,List.set_cons_zero,List.set_cons_succ]
   refine wpAnyH_take (i:=5) (v:=?_) A8 kR kR kR A9 (Or.inl ⟨rF,?_⟩) Aa ?_
   rotate_left 1
   ·(intro wS hSw;(try dsimp only at hSw);go_simp;try(with_reducible rfl))
   try simp only[Act.put,List.setIfInBounds_toArray,List.set_cons_zero,List.set_cons_succ]
   refine wpAnyH_take (i:=6) (v:=?_) A8 kR kR kR A9 (Or.inl ⟨rF,?_⟩) Aa ?_
   rotate_left 1
   ·(intro wS hSw;(try dsimp only at hSw);go_simp;try(with_reducible rfl))
   try simp only[Act.put,List.setIfInBounds_toArray,List.set_cons_zero,List.set_cons_succ]
   refine wpAnyH_take (i:=7) (v:=?_) A8 kR kR kR A9 (Or.inl ⟨rF,?_⟩) Aa ?_
   rotate_left 1
   ·(intro wS hSw;(try dsimp only at hSw);go_simp;try(with_reducible rfl))
   try simp only[Act.put,List.setIfInBounds_toArray,List.set_cons_zero,List.set_cons_succ]
   refine wpAnyH_take (i:=8) (v:=?_) A8 kR kR kR A9 (Or.inl ⟨rF,?_⟩) Aa ?_
   rotate_left 1
   ·(intro wS hSw;(try dsimp only at hSw);go_simp;try(with_reducible rfl))
   try simp only[Act.put,List.setIfInBounds_toArray,List.set_cons_zero,List.set_cons_succ]
   clear hJ;refine AP 9 fun K hK=>?_;go_simp;refine AW hK fun hJ=>?_;clear hK K;refine wpAnyH_take (i:=10) (v:=?_) A8 kR kR kR A9 (Or.inl ⟨rF,?_⟩) Aa ?_
   rotate_left 1
   ·(intro wS hSw;(try dsimp only at hSw);go_simp;try(with_reducible rfl))
   try simp only[Act.put,List.setIfInBounds_toArray,List.set_cons_zero,List.set_cons_succ]
   refine wpAnyH_take (i:=11) (v:=?_) A8 kR kR kR A9 (Or.inl ⟨rF,?_⟩) Aa ?_
   rotate_left 1
   ·(intro wS hSw;(try dsimp only at hSw);go_simp;try(with_reducible rfl))
   try simp only[Act.put,List.setIfInBounds_toArray,List.set_cons_zero,List.set_cons_succ]
   refine wpAnyH_done kR ?_ _;rw[HV.out];try rw[HT.out]
   clear c0 ht;go_wp2_with(first|(go_at_call 82;(with_reducible refine KP'.out.mono ?_);rintro e9 w4 ⟨rfl,rfl⟩)|(go_at_call 83;(with_reducible refine KT'.out.mono ?_);rintro e9 w5 ⟨rfl,hb5,ho5⟩;have HR5:=A6 (HG.out _ hb5 ho5);clear hb5 ho5));exact⟨rfl,HR5.out⟩
  .rw[if_neg q4]at hR;have h9:Bg 4 (Ab s) 0=.ok ((Ab s).take 4,(Ab s).drop 4,4):=by unfold Bg;rw[if_neg (by rw[Ah,hN];exact q4)]
   rw[h9]at KT';unfold AX at KT';simp only at KT';have HG:Hid (∀w',Below E V w'->B5 RB V w'->BB E RB s 4 w'->AX E RB s w (fun(_:Unit)=>Value.tuple #[]) R (.returned (.tuple #[])) w'):=fun w' a b c=>by rw[<-hR];exact(HD1.next a b c).fin (val:=fun(_:Unit)=>Value.tuple #[]) (by rw[hN];omega) rfl
   clear q q4 h9 hR hK;go_enter func49,ntmps49;go_upto_region 0 with fail;refine rG (fun v=>v.cell? ⟨RB,0,none⟩=some (.string s)) fun hJ=>?_;refine wpAnyH_take (i:=0) (v:=?_) A8 kR kR kR A9 (Or.inl ⟨rF,?_⟩) Aa ?_
   rotate_left 1
   ·(intro wS hSw;(try dsimp only at hSw);go_simp;try(with_reducible rfl))
   try simp only[Act.put,List.setIfInBounds_toArray,List.set_cons_zero,List.set_cons_succ]
   refine wpAnyH_take (i:=1) (v:=?_) A8 kR kR kR A9 (Or.inl ⟨rF,?_⟩) Aa ?_
   rotate_left 1
   ·(intro wS hSw;(try dsimp only at hSw);go_simp;try(with_reducible rfl))
   try simp only[Act.put,List.setIfInBounds_toArray,List.set_cons_zero,List.set_cons_succ]
   refine wpAnyH_take (i:=2) (v:=?_) A8 kR kR kR A9 (Or.inl ⟨rF,?_⟩) Aa ?_
   rotate_left 1
   ·(intro wS hSw;(try dsimp only at hSw);go_simp;try(with_reducible rfl))
   try simp only[Act.put,List.setIfInBounds_toArray,List.set_cons_zero,List.set_cons_succ]
   refine wpAnyH_take (i:=3) (v:=?_) A8 kR kR kR A9 (Or.inl ⟨rF,?_⟩) Aa ?_
   rotate_left 1
   ·(intro wS hSw;(try dsimp only at hSw);go_simp;try(with_reducible rfl))
   try simp only[Act.put,List.setIfInBounds_toArray,List.set_cons_zero,List.set_cons_succ]
   refine wpAnyH_take (i:=4) (v:=?_) A8 kR kR kR A9 (Or.inl ⟨rF,?_⟩) Aa ?_
   rotate_left 1
   ·(intro wS hSw;(try dsimp only at hSw);go_simp;try(with_reducible rfl))
   try simp only[Act.put,List.setIfInBounds_toArray,List.set_cons_zero,List.set_cons_succ]
   refine wpAnyH_take (i:=5) (v:=?_) A8 kR kR kR A9 (Or.inl ⟨rF,?_⟩) Aa ?_
   rotate_left 1
   ·(intro wS hSw;(try dsimp only at hSw);go_simp;try(with_reducible rfl))
   try simp only[Act.put,List.setIfInBounds_toArray,List.set_cons_zero,List.set_cons_succ]
   refine wpAnyH_take (i:=6) (v:=?_) A8 kR kR kR A9 (Or.inl ⟨rF,?_⟩) Aa ?_
   rotate_left 1
   ·(intro wS hSw;(try dsimp only at hSw);go_simp;try(with_reducible rfl))
   try simp only[Act.put,List.setIfInBounds_toArray,List.set_cons_zero,List.set_cons_succ]
   refine wpAnyH_take (i:=7) (v:=?_) A8 kR kR kR A9 (Or.inl ⟨rF,?_⟩) Aa ?_
   rotate_left 1
   ·(intro wS hSw;(try dsimp only at hSw);go_simp;try(with_reducible rfl))
   try simp only[Act.put,List.setIfInBounds_toArray,List.set_cons_zero,List.set_cons_succ]
   refine wpAnyH_take (i:=8) (v:=?_) A8 kR kR kR A9 (Or.inl ⟨rF,?_⟩) Aa ?_
   rotate_left 1
   ·(intro wS hSw;(try dsimp only at hSw);go_simp;try(with_reducible rfl))
   try simp only[Act.put,List.setIfInBounds_toArray,List.set_cons_zero,List.set_cons_succ]
   clear hJ;refine AP 9 fun K hK=>?_;go_simp;refine AW hK fun hJ=>?_;clear hK K;refine wpAnyH_take (i:=10) (v:=?_) A8 kR kR kR A9 (Or.inl ⟨rF,?_⟩) Aa ?_
   rotate_left 1
   ·(intro wS hSw;(try dsimp only at hSw);go_simp;try(with_reducible rfl))
   try simp only[Act.put,List.setIfInBounds_toArray,List.set_cons_zero,List.set_cons_succ]
   refine wpAnyH_take (i:=11) (v:=?_) A8 kR kR kR A9 (Or.inl ⟨rF,?_⟩) Aa ?_
   rotate_left 1
   ·(intro wS hSw;(try dsimp only at hSw);go_simp;try(with_reducible rfl))
   try simp only[Act.put,List.setIfInBounds_toArray,List.set_cons_zero,List.set_cons_succ]
   refine wpAnyH_done kR ?_ _;rw[HV.out];try rw[HT.out]
   clear c0 ht;go_wp2_with(first|(go_at_call 82;(with_reducible refine KP'.out.mono ?_);rintro e9 w4 ⟨rfl,rfl⟩)|(go_at_call 83;(with_reducible refine KT'.out.mono ?_);rintro e9 w5 ⟨rfl,hb5,ho5,hm5,hl5,hd5⟩;have HR5:=A6 (HG.out _ hb5 ho5 hm5);clear hb5 ho5 hm5 hl5 hd5));first|go_end0|refine bodyPost_ret (results_none rfl _ _ _) rfl ?_|(simp only[Exit.inBlock,Exit.then];refine bodyPost_ret (results_none rfl _ _ _) rfl ?_)
   exact HR5.out
 .rw[if_pos (by simpa using q)]at hR;rw[decide_eq_false q]at KP';have HG:Hid (AX E RB s w (fun(_:Unit)=>Value.tuple #[]) R (B2 240 0) V):=by show AX _ _ _ _ _ _ _ _;rw[<-hR];exact HD1.bad _ 240 0 (Below.refl _ _) (B5.refl _ _)
  unfold B2 at HG;clear q hR hK;go_enter func49,ntmps49;go_upto_region 0 with fail;refine rG (fun v=>v.cell? ⟨RB,0,none⟩=some (.string s)) fun hJ=>?_;refine wpAnyH_take (i:=0) (v:=?_) A8 kR kR kR A9 (Or.inl ⟨rF,?_⟩) Aa ?_
  rotate_left 1
  ·(intro wS hSw;(try dsimp only at hSw);go_simp;try(with_reducible rfl))
  try simp only[Act.put,List.setIfInBounds_toArray,List.set_cons_zero,List.set_cons_succ]
  refine wpAnyH_take (i:=1) (v:=?_) A8 kR kR kR A9 (Or.inl ⟨rF,?_⟩) Aa ?_
  rotate_left 1
  ·(intro wS hSw;(try dsimp only at hSw);go_simp;try(with_reducible rfl))
  try simp only[Act.put,List.setIfInBounds_toArray,List.set_cons_zero,List.set_cons_succ]
  refine wpAnyH_take (i:=2) (v:=?_) A8 kR kR kR A9 (Or.inl ⟨rF,?_⟩) Aa ?_
  rotate_left 1
  ·(intro wS hSw;(try dsimp only at hSw);go_simp;try(with_reducible rfl))
  try simp only[Act.put,List.setIfInBounds_toArray,List.set_cons_zero,List.set_cons_succ]
  refine wpAnyH_take (i:=3) (v:=?_) A8 kR kR kR A9 (Or.inl ⟨rF,?_⟩) Aa ?_
  rotate_left 1
  ·(intro wS hSw;(try dsimp only at hSw);go_simp;try(with_reducible rfl))
  try simp only[Act.put,List.setIfInBounds_toArray,List.set_cons_zero,List.set_cons_succ]
  refine wpAnyH_take (i:=4) (v:=?_) A8 kR kR kR A9 (Or.inl ⟨rF,?_⟩) Aa ?_
  rotate_left 1
  ·(intro wS hSw;(try dsimp only at hSw);go_simp;try(with_reducible rfl))
  try simp only[Act.put,List.setIfInBounds_toArray,List.set_cons_zero,List.set_cons_succ]
  refine wpAnyH_take (i:=5) (v:=?_) A8 kR kR kR A9 (Or.inl ⟨rF,?_⟩) Aa ?_
  rotate_left 1
  ·(intro wS hSw;(try dsimp only at hSw);go_simp;try(with_reducible rfl))
  try simp only[Act.put,List.setIfInBounds_toArray,List.set_cons_zero,List.set_cons_succ]
  refine wpAnyH_take (i:=6) (v:=?_) A8 kR kR kR A9 (Or.inl ⟨rF,?_⟩) Aa ?_
  rotate_left 1
  ·(intro wS hSw;(try dsimp only at hSw);go_simp;try(with_reducible rfl))
  try simp only[Act.put,List.setIfInBounds_toArray,List.set_cons_zero,List.set_cons_succ]
  refine wpAnyH_take (i:=7) (v:=?_) A8 kR kR kR A9 (Or.inl ⟨rF,?_⟩) Aa ?_
  rotate_left 1
  ·(intro wS hSw;(try dsimp only at hSw);go_simp;try(with_reducible rfl))
  try simp only[Act.put,List.setIfInBounds_toArray,List.set_cons_zero,List.set_cons_succ]
  refine wpAnyH_take (i:=8) (v:=?_) A8 kR kR kR A9 (Or.inl ⟨rF,?_⟩) Aa ?_
  rotate_left 1
  ·(intro wS hSw;(try dsimp only at hSw);go_simp;try(with_reducible rfl))
  try simp only[Act.put,List.setIfInBounds_toArray,List.set_cons_zero,List.set_cons_succ]
  clear hJ;refine AP 9 fun K hK=>?_;go_simp;refine AW hK fun hJ=>?_;clear hK K;refine wpAnyH_take (i:=10) (v:=?_) A8 kR kR kR A9 (Or.inl ⟨rF,?_⟩) Aa ?_
  rotate_left 1
  ·(intro wS hSw;(try dsimp only at hSw);go_simp;try(with_reducible rfl))
  try simp only[Act.put,List.setIfInBounds_toArray,List.set_cons_zero,List.set_cons_succ]
  refine wpAnyH_take (i:=11) (v:=?_) A8 kR kR kR A9 (Or.inl ⟨rF,?_⟩) Aa ?_
  rotate_left 1
  ·(intro wS hSw;(try dsimp only at hSw);go_simp;try(with_reducible rfl))
  try simp only[Act.put,List.setIfInBounds_toArray,List.set_cons_zero,List.set_cons_succ]
  refine wpAnyH_done kR ?_ _;rw[HV.out];try rw[HT.out]
  clear c0 ht;go_wp2_with(go_at_call 82;(with_reducible refine KP'.out.mono ?_);rintro e9 w4 ⟨rfl,rfl⟩);exact⟨rfl,HG.out⟩
theorem M7{k:Nat}{l:List Nat}{p:Nat}{e:Int×Nat}(h:C4 k l p=.error e):l.length<k/\e=(242,p):=by
 unfold C4 Ac Bg at h;by_cases q:l.length<k
 .rw[if_pos q]at h;simp only[Except.error.injEq]at h;exact⟨q,h.symm⟩
 .rw[if_neg q]at h;cases h
theorem Kv{k:Nat}{l l':List Nat}{p p' n:Nat}(h:C4 k l p=.ok (n,l',p')):¬l.length<k/\n=Bi (l.take k)/\l'=l.drop k/\p'=p+k:=by
 unfold C4 Ac Bg at h;by_cases q:l.length<k
 .rw[if_pos q]at h;cases h
 .rw[if_neg q]at h;unfold Ax at h;simp only[Except.ok.injEq,Prod.mk.injEq]at h;exact⟨q,h.1.symm,h.2.1.symm,h.2.2.symm⟩
theorem Mg(E RB:Nat)(s:ByteArray)(A:Nat)(w:World)(h:BB E RB s A w)(hA:A<=s.size)(hs:s.size<=281474976710656)(hE:E<=w.heap.size):
 Calls prog 27 #[.pointer (some ⟨RB,0,none⟩)] w (AX E RB s w (fun(_:Unit)=>.tuple #[]) (Ku (Ab s) ((Ab s).drop A) A)):=by
 obtain⟨N,hN⟩:=gA (s.size)
 have hd:Below w.heap.size w w.drew:=(Below.refl _ _).drew;obtain⟨V,hV⟩:=gA (w.drew)
 rw[hV]at hd;have hmV:=h.below hd;have D1:BY E RB s A w V:=(BY.start h).below hE hd;have KN:Calls prog 58 #[.pointer (some ⟨RB,0,none⟩),.int .i64 8] V (AX E RB s V (fun(b:Nat)=>.int .u64 (b:Int)) (C4 8 ((Ab s).drop A) A)):=Gb E RB s A 8 dE V hmV hA hs (gH hE D1.2.1.1);obtain⟨R,hR⟩:=gA (Ku (Ab s) ((Ab s).drop A) A)
 rw[hR];unfold Ku at hR;have c0:=h.c0;have c1:=h.c1;have v0:=hmV.c0;have i1:(0:Int)<=(A:Int):=oM;have i2:(A:Int)<=(N:Int):=oM;have i3:A<=N:=oM;have HV:=A6 hV;have HD1:=A6 D1;clear h hd hmV D1 hV;cases hq:C4 8 ((Ab s).drop A) A with
 |error er=>
  obtain⟨er,at_⟩:=er;obtain⟨h1,h2⟩:=M7 hq;simp only[Prod.mk.injEq]at h2;obtain⟨rfl,rfl⟩:=h2;rw[if_pos h1]at hR;rw[hq]at KN;have KN':=A6 KN;unfold AX B2 at KN';simp only at KN';have HG:Hid (∀w',Below E V w'->B5 RB V w'->AX E RB s w (fun(_:Unit)=>Value.tuple #[]) R (B2 242 at_) w'):=fun w' a b=>by rw[<-hR];exact HD1.bad _ 242 at_ a b
  unfold B2 at HG;obtain⟨t,ht⟩:=gA (s.extract 0 at_)
  clear KN hq hR h1;go_enter func27,ntmps27;go_upto_region 1 with fail;refine rG (fun v=>v.cell? ⟨RB,0,none⟩=some (.string s)) fun hJ=>?_;refine wpAnyH_take (i:=0) (v:=?_) A8 kR kR kR A9 (Or.inl ⟨rF,?_⟩) Aa ?_
  rotate_left 1
  ·(intro wS hSw;(try dsimp only at hSw);go_simp;try(with_reducible rfl))
  try simp only[Act.put,List.setIfInBounds_toArray,List.set_cons_zero,List.set_cons_succ]
  refine wpAnyH_take (i:=2) (v:=?_) A8 kR kR kR A9 (Or.inl ⟨rF,?_⟩) Aa ?_
  rotate_left 1
  ·(intro wS hSw;(try dsimp only at hSw);go_simp;try(with_reducible rfl))
  try simp only[Act.put,List.setIfInBounds_toArray,List.set_cons_zero,List.set_cons_succ]
  refine wpAnyH_take (i:=3) (v:=?_) A8 kR kR kR A9 (Or.inl ⟨rF,?_⟩) Aa ?_
  rotate_left 1
  ·(intro wS hSw;(try dsimp only at hSw);go_simp;try(with_reducible rfl))
  try simp only[Act.put,List.setIfInBounds_toArray,List.set_cons_zero,List.set_cons_succ]
  refine wpAnyH_take (i:=4) (v:=?_) A8 kR kR kR A9 (Or.inl ⟨rF,?_⟩) Aa ?_
  rotate_left 1
  ·(intro wS hSw;(try dsimp only at hSw);go_simp;try(with_reducible rfl))
  try simp only[Act.put,List.setIfInBounds_toArray,List.set_cons_zero,List.set_cons_succ]
  refine wpAnyH_take (i:=5) (v:=?_) A8 kR kR kR A9 (Or.inl ⟨rF,?_⟩) Aa ?_
  rotate_left 1
  ·(intro wS hSw;(try dsimp only at hSw);go_simp;try(with_reducible rfl))
  try simp only[Act.put,List.setIfInBounds_toArray,List.set_cons_zero,List.set_cons_succ]
  refine wpAnyH_take (i:=6) (v:=?_) A8 kR kR kR A9 (Or.inl ⟨rF,?_⟩) Aa ?_
  rotate_left 1
  ·(intro wS hSw;(try dsimp only at hSw);go_simp;try(with_reducible rfl))
  try simp only[Act.put,List.setIfInBounds_toArray,List.set_cons_zero,List.set_cons_succ]
  refine wpAnyH_take (i:=7) (v:=?_) A8 kR kR kR A9 (Or.inl ⟨rF,?_⟩) Aa ?_
  rotate_left 1
  ·(intro wS hSw;(try dsimp only at hSw);go_simp;try(with_reducible rfl))
  try simp only[Act.put,List.setIfInBounds_toArray,List.set_cons_zero,List.set_cons_succ]
  clear hJ;refine AP 1 fun K hK=>?_;go_simp;(go_at_call 58;(rw[HV.out]);(with_reducible refine KN'.out.mono ?_);rintro e9 w5 ⟨rfl,hb5,ho5⟩;have HR5:=A6 (HG.out _ hb5 ho5);clear hb5 ho5);try(go_wp2_with fail)
  exact⟨rfl,HR5.out⟩
 |ok r=>
  obtain⟨n,l',A'⟩:=r;obtain⟨h1,h2,h3,h4⟩:=Kv hq;subst h4;rw[if_neg h1,<-h2,List.length_drop,Ah,hN]at hR;rw[hq]at KN;have KN':=A6 KN;unfold AX at KN';simp only at KN';obtain⟨t,ht⟩:=gA (s.extract 0 A)
  have htb:Ab t=(Ab s).take A:=by
   rw[<-ht];have h9:=BK s 0 A;rw[Nat.zero_add,List.drop_zero]at h9;exact h9
  have hts:t.size<=281474976710656:=by rw[<-Ah,htb,List.length_take,Ah];omega
  have KP:=A6 (fun v=>E2 t hts v);rw[htb]at KP;have h8:A+8<=N:=by rw[List.length_drop,Ah]at h1;omega
  obtain⟨C,hC⟩:=gA (EV ((Ab s).take A))
  rw[hC]at KP hR;obtain⟨P,hP⟩:=gA (A+8)
  rw[hP]at KN';have HG:Hid (∀w',Below E V w'->B5 RB V w'->BB E RB s P w'->BY E RB s P w w'):=fun w' a b c=>HD1.next a b c;by_cases q:n=C
  .subst q;rw[if_neg sM]at hR;by_cases q8:P<N
   .rw[if_pos oM,hP]at hR;have e1:(P:Int)<(N:Int):=oM;have HG2:Hid (∀w',BY E RB s P w w'->AX E RB s w (fun(_:Unit)=>Value.tuple #[]) R (B2 244 P) w'.drew):=fun w' a=>by rw[<-hR];exact a.bad _ 244 P ((Below.refl _ _).drew.mono (gH hE a.2.1.1)) (B5.of (Below.refl _ _).drew)
    unfold B2 at HG2;clear hq hR h1 h2 h3 hC hP htb hts KN;go_enter func27,ntmps27;go_upto_region 1 with fail;refine rG (fun v=>v.cell? ⟨RB,0,none⟩=some (.string s)) fun hJ=>?_;refine wpAnyH_take (i:=0) (v:=?_) A8 kR kR kR A9 (Or.inl ⟨rF,?_⟩) Aa ?_
    rotate_left 1
    ·(intro wS hSw;(try dsimp only at hSw);go_simp;try(with_reducible rfl))
    try simp only[Act.put,List.setIfInBounds_toArray,List.set_cons_zero,List.set_cons_succ]
    refine wpAnyH_take (i:=2) (v:=?_) A8 kR kR kR A9 (Or.inl ⟨rF,?_⟩) Aa ?_
    rotate_left 1
    ·(intro wS hSw;(try dsimp only at hSw);go_simp;try(with_reducible rfl))
    try simp only[Act.put,List.setIfInBounds_toArray,List.set_cons_zero,List.set_cons_succ]
    refine wpAnyH_take (i:=3) (v:=?_) A8 kR kR kR A9 (Or.inl ⟨rF,?_⟩) Aa ?_
    rotate_left 1
    ·(intro wS hSw;(try dsimp only at hSw);go_simp;try(with_reducible rfl))
    try simp only[Act.put,List.setIfInBounds_toArray,List.set_cons_zero,List.set_cons_succ]
    refine wpAnyH_take (i:=4) (v:=?_) A8 kR kR kR A9 (Or.inl ⟨rF,?_⟩) Aa ?_
    rotate_left 1
    ·(intro wS hSw;(try dsimp only at hSw);go_simp;try(with_reducible rfl))
    try simp only[Act.put,List.setIfInBounds_toArray,List.set_cons_zero,List.set_cons_succ]
    refine wpAnyH_take (i:=5) (v:=?_) A8 kR kR kR A9 (Or.inl ⟨rF,?_⟩) Aa ?_
    rotate_left 1
    ·(intro wS hSw;(try dsimp only at hSw);go_simp;try(with_reducible rfl))
    try simp only[Act.put,List.setIfInBounds_toArray,List.set_cons_zero,List.set_cons_succ]
    refine wpAnyH_take (i:=6) (v:=?_) A8 kR kR kR A9 (Or.inl ⟨rF,?_⟩) Aa ?_
    rotate_left 1
    ·(intro wS hSw;(try dsimp only at hSw);go_simp;try(with_reducible rfl))
    try simp only[Act.put,List.setIfInBounds_toArray,List.set_cons_zero,List.set_cons_succ]
    refine wpAnyH_take (i:=7) (v:=?_) A8 kR kR kR A9 (Or.inl ⟨rF,?_⟩) Aa ?_
    rotate_left 1
    ·(intro wS hSw;(try dsimp only at hSw);go_simp;try(with_reducible rfl))
    try simp only[Act.put,List.setIfInBounds_toArray,List.set_cons_zero,List.set_cons_succ]
    clear hJ;refine AP 1 fun K hK=>?_;go_simp;(go_at_call 58;(rw[HV.out]);(with_reducible refine KN'.out.mono ?_);rintro e9 w5 ⟨rfl,hb5,ho5,hm5,hl5,hd5⟩;have HB5:=A6 hb5;have HO5:=A6 ho5;have HM5:=A6 hm5;have d0:=hm5.c0;clear hb5 ho5 hm5 hl5 hd5);try(go_wp2_with fail)
    refine AW hK fun hJ=>?_;clear hK K;clear hJ;refine AP 8 fun K hK=>?_;go_simp;(go_at_call 19;(with_reducible refine(KP.out _).mono ?_);rintro e9 w6 ⟨rfl,rfl⟩);try(go_wp2_with fail)
    refine AW hK fun hJ=>?_;clear hK K;refine wpAnyH_take (i:=9) (v:=?_) A8 kR kR kR A9 (Or.inl ⟨rF,?_⟩) Aa ?_
    rotate_left 1
    ·(intro wS hSw;(try dsimp only at hSw);go_simp;try(with_reducible rfl))
    try simp only[Act.put,List.setIfInBounds_toArray,List.set_cons_zero,List.set_cons_succ]
    refine wpAnyH_done kR ?_ _;clear ht c0 c1 v0;have hm5:=HM5.out;have g0:=hm5.c0;have g1:=hm5.c1;have HGG:=A6 (HG2.out _ (HG.out _ HB5.out HO5.out HM5.out));have k1:w6.drew.cell? ⟨RB,1,none⟩=some (.int .i64 (P:Int)):=(hm5.below (Below.refl _ _).drew).c1;clear hm5;go_upto_region 3 with fail;refine rG (fun v=>v.cell? ⟨RB,0,none⟩=some (.string s)/\v.cell? ⟨RB,1,none⟩=some (.int .i64 (P:Int))) fun hJ=>?_;refine wpAnyH_take (i:=0) (v:=?_) A8 kR kR kR A9 (Or.inl ⟨rF,?_⟩) Aa ?_
    rotate_left 1
    ·(intro wS hSw;(try dsimp only at hSw);go_simp;try(with_reducible rfl))
    try simp only[Act.put,List.setIfInBounds_toArray,List.set_cons_zero,List.set_cons_succ]
    refine wpAnyH_take (i:=1) (v:=?_) A8 kR kR kR A9 (Or.inl ⟨rF,?_⟩) Aa ?_
    rotate_left 1
    ·(intro wS hSw;(try dsimp only at hSw);go_simp;try(with_reducible rfl))
    try simp only[Act.put,List.setIfInBounds_toArray,List.set_cons_zero,List.set_cons_succ]
    refine wpAnyH_take (i:=2) (v:=?_) A8 kR kR kR A9 (Or.inl ⟨rF,?_⟩) Aa ?_
    rotate_left 1
    ·(intro wS hSw;(try dsimp only at hSw);go_simp;try(with_reducible rfl))
    try simp only[Act.put,List.setIfInBounds_toArray,List.set_cons_zero,List.set_cons_succ]
    refine wpAnyH_take (i:=3) (v:=?_) A8 kR kR kR A9 (Or.inl ⟨rF,?_⟩) Aa ?_
    rotate_left 1
    ·(intro wS hSw;(try dsimp only at hSw);go_simp;try(with_reducible rfl))
    try simp only[Act.put,List.setIfInBounds_toArray,List.set_cons_zero,List.set_cons_succ]
    refine wpAnyH_take (i:=4) (v:=?_) A8 kR kR kR A9 (Or.inl ⟨rF,?_⟩) Aa ?_
    rotate_left 1
    ·(intro wS hSw;(try dsimp only at hSw);go_simp;try(with_reducible rfl))
    try simp only[Act.put,List.setIfInBounds_toArray,List.set_cons_zero,List.set_cons_succ]
    refine wpAnyH_take (i:=5) (v:=?_) A8 kR kR kR A9 (Or.inl ⟨rF,?_⟩) Aa ?_
    rotate_left 1
    ·(intro wS hSw;(try dsimp only at hSw);go_simp;try(with_reducible rfl))
    try simp only[Act.put,List.setIfInBounds_toArray,List.set_cons_zero,List.set_cons_succ]
    refine wpAnyH_take (i:=6) (v:=?_) A8 kR kR kR A9 (Or.inl ⟨rF,?_⟩) Aa ?_
    rotate_left 1
    ·(intro wS hSw;(try dsimp only at hSw);go_simp;try(with_reducible rfl))
    try simp only[Act.put,List.setIfInBounds_toArray,List.set_cons_zero,List.set_cons_succ]
    refine wpAnyH_take (i:=7) (v:=?_) A8 kR kR kR A9 (Or.inl ⟨rF,?_⟩) Aa ?_
    rotate_left 1
    ·(intro wS hSw;(try dsimp only at hSw);go_simp;try(with_reducible rfl))
    try simp only[Act.put,List.setIfInBounds_toArray,List.set_cons_zero,List.set_cons_succ]
    refine wpAnyH_take (i:=8) (v:=?_) A8 kR kR kR A9 (Or.inl ⟨rF,?_⟩) Aa ?_
    rotate_left 1
    ·(intro wS hSw;(try dsimp only at hSw);go_simp;try(with_reducible rfl))
    try simp only[Act.put,List.setIfInBounds_toArray,List.set_cons_zero,List.set_cons_succ]
    refine wpAnyH_take (i:=9) (v:=?_) A8 kR kR kR A9 (Or.inl ⟨rF,?_⟩) Aa ?_
    rotate_left 1
    ·(intro wS hSw;(try dsimp only at hSw);go_simp;try(with_reducible rfl))
    try simp only[Act.put,List.setIfInBounds_toArray,List.set_cons_zero,List.set_cons_succ]
    refine wpAnyH_done kR ?_ _;go_wp2;exact⟨rfl,HGG.out⟩
   .rw[if_neg oM,hP]at hR;have e1:¬ (P:Int)<(N:Int):=oM;have HG2:Hid (∀w',BY E RB s P w w'->AX E RB s w (fun(_:Unit)=>Value.tuple #[]) R (.returned (.tuple #[])) w'.drew):=fun w' a=>by rw[<-hR];exact(a.below hE (Below.refl _ _).drew).fin (val:=fun(_:Unit)=>Value.tuple #[]) (by rw[hN];omega) (by rw[List.drop_drop,hP])
    clear hq hR h1 h2 h3 hC hP htb hts KN;go_enter func27,ntmps27;go_upto_region 1 with fail;refine rG (fun v=>v.cell? ⟨RB,0,none⟩=some (.string s)) fun hJ=>?_;refine wpAnyH_take (i:=0) (v:=?_) A8 kR kR kR A9 (Or.inl ⟨rF,?_⟩) Aa ?_
    rotate_left 1
    ·(intro wS hSw;(try dsimp only at hSw);go_simp;try(with_reducible rfl))
    try simp only[Act.put,List.setIfInBounds_toArray,List.set_cons_zero,List.set_cons_succ]
    refine wpAnyH_take (i:=2) (v:=?_) A8 kR kR kR A9 (Or.inl ⟨rF,?_⟩) Aa ?_
    rotate_left 1
    ·(intro wS hSw;(try dsimp only at hSw);go_simp;try(with_reducible rfl))
    try simp only[Act.put,List.setIfInBounds_toArray,List.set_cons_zero,List.set_cons_succ]
    refine wpAnyH_take (i:=3) (v:=?_) A8 kR kR kR A9 (Or.inl ⟨rF,?_⟩) Aa ?_
    rotate_left 1
    ·(intro wS hSw;(try dsimp only at hSw);go_simp;try(with_reducible rfl))
    try simp only[Act.put,List.setIfInBounds_toArray,List.set_cons_zero,List.set_cons_succ]
    refine wpAnyH_take (i:=4) (v:=?_) A8 kR kR kR A9 (Or.inl ⟨rF,?_⟩) Aa ?_
    rotate_left 1
    ·(intro wS hSw;(try dsimp only at hSw);go_simp;try(with_reducible rfl))
    try simp only[Act.put,List.setIfInBounds_toArray,List.set_cons_zero,List.set_cons_succ]
    refine wpAnyH_take (i:=5) (v:=?_) A8 kR kR kR A9 (Or.inl ⟨rF,?_⟩) Aa ?_
    rotate_left 1
    ·(intro wS hSw;(try dsimp only at hSw);go_simp;try(with_reducible rfl))
    try simp only[Act.put,List.setIfInBounds_toArray,List.set_cons_zero,List.set_cons_succ]
    refine wpAnyH_take (i:=6) (v:=?_) A8 kR kR kR A9 (Or.inl ⟨rF,?_⟩) Aa ?_
    rotate_left 1
    ·(intro wS hSw;(try dsimp only at hSw);go_simp;try(with_reducible rfl))
    try simp only[Act.put,List.setIfInBounds_toArray,List.set_cons_zero,List.set_cons_succ]
    refine wpAnyH_take (i:=7) (v:=?_) A8 kR kR kR A9 (Or.inl ⟨rF,?_⟩) Aa ?_
    rotate_left 1
    ·(intro wS hSw;(try dsimp only at hSw);go_simp;try(with_reducible rfl))
    try simp only[Act.put,List.setIfInBounds_toArray,List.set_cons_zero,List.set_cons_succ]
    clear hJ;refine AP 1 fun K hK=>?_;go_simp;(go_at_call 58;(rw[HV.out]);(with_reducible refine KN'.out.mono ?_);rintro e9 w5 ⟨rfl,hb5,ho5,hm5,hl5,hd5⟩;have HB5:=A6 hb5;have HO5:=A6 ho5;have HM5:=A6 hm5;have d0:=hm5.c0;clear hb5 ho5 hm5 hl5 hd5);try(go_wp2_with fail)
    refine AW hK fun hJ=>?_;clear hK K;clear hJ;refine AP 8 fun K hK=>?_;go_simp;(go_at_call 19;(with_reducible refine(KP.out _).mono ?_);rintro e9 w6 ⟨rfl,rfl⟩);try(go_wp2_with fail)
    refine AW hK fun hJ=>?_;clear hK K;refine wpAnyH_take (i:=9) (v:=?_) A8 kR kR kR A9 (Or.inl ⟨rF,?_⟩) Aa ?_
    rotate_left 1
    ·(intro wS hSw;(try dsimp only at hSw);go_simp;try(with_reducible rfl))
    try simp only[Act.put,List.setIfInBounds_toArray,List.set_cons_zero,List.set_cons_succ]
    refine wpAnyH_done kR ?_ _;clear ht c0 c1 v0;have hm5:=HM5.out;have g0:=hm5.c0;have g1:=hm5.c1;have HGG:=A6 (HG2.out _ (HG.out _ HB5.out HO5.out HM5.out));clear hm5;go_upto_region 3 with fail;refine rG (fun v=>v.cell? ⟨RB,0,none⟩=some (.string s)/\v.cell? ⟨RB,1,none⟩=some (.int .i64 (P:Int))) fun hJ=>?_;refine wpAnyH_take (i:=0) (v:=?_) A8 kR kR kR A9 (Or.inl ⟨rF,?_⟩) Aa ?_
    rotate_left 1
    ·(intro wS hSw;(try dsimp only at hSw);go_simp;try(with_reducible rfl))
    try simp only[Act.put,List.setIfInBounds_toArray,List.set_cons_zero,List.set_cons_succ]
    refine wpAnyH_take (i:=1) (v:=?_) A8 kR kR kR A9 (Or.inl ⟨rF,?_⟩) Aa ?_
    rotate_left 1
    ·(intro wS hSw;(try dsimp only at hSw);go_simp;try(with_reducible rfl))
    try simp only[Act.put,List.setIfInBounds_toArray,List.set_cons_zero,List.set_cons_succ]
    refine wpAnyH_take (i:=2) (v:=?_) A8 kR kR kR A9 (Or.inl ⟨rF,?_⟩) Aa ?_
    rotate_left 1
    ·(intro wS hSw;(try dsimp only at hSw);go_simp;try(with_reducible rfl))
    try simp only[Act.put,List.setIfInBounds_toArray,List.set_cons_zero,List.set_cons_succ]
    refine wpAnyH_take (i:=3) (v:=?_) A8 kR kR kR A9 (Or.inl ⟨rF,?_⟩) Aa ?_
    rotate_left 1
    ·(intro wS hSw;(try dsimp only at hSw);go_simp;try(with_reducible rfl))
    try simp only[Act.put,List.setIfInBounds_toArray,List.set_cons_zero,List.set_cons_succ]
    refine wpAnyH_take (i:=4) (v:=?_) A8 kR kR kR A9 (Or.inl ⟨rF,?_⟩) Aa ?_
    rotate_left 1
    ·(intro wS hSw;(try dsimp only at hSw);go_simp;try(with_reducible rfl))
    try simp only[Act.put,List.setIfInBounds_toArray,List.set_cons_zero,List.set_cons_succ]
    refine wpAnyH_take (i:=5) (v:=?_) A8 kR kR kR A9 (Or.inl ⟨rF,?_⟩) Aa ?_
    rotate_left 1
    ·(intro wS hSw;(try dsimp only at hSw);go_simp;try(with_reducible rfl))
    try simp only[Act.put,List.setIfInBounds_toArray,List.set_cons_zero,List.set_cons_succ]
    refine wpAnyH_take (i:=6) (v:=?_) A8 kR kR kR A9 (Or.inl ⟨rF,?_⟩) Aa ?_
    rotate_left 1
    ·(intro wS hSw;(try dsimp only at hSw);go_simp;try(with_reducible rfl))
    try simp only[Act.put,List.setIfInBounds_toArray,List.set_cons_zero,List.set_cons_succ]
    refine wpAnyH_take (i:=7) (v:=?_) A8 kR kR kR A9 (Or.inl ⟨rF,?_⟩) Aa ?_
    rotate_left 1
    ·(intro wS hSw;(try dsimp only at hSw);go_simp;try(with_reducible rfl))
    try simp only[Act.put,List.setIfInBounds_toArray,List.set_cons_zero,List.set_cons_succ]
    refine wpAnyH_take (i:=8) (v:=?_) A8 kR kR kR A9 (Or.inl ⟨rF,?_⟩) Aa ?_
    rotate_left 1
    ·(intro wS hSw;(try dsimp only at hSw);go_simp;try(with_reducible rfl))
    try simp only[Act.put,List.setIfInBounds_toArray,List.set_cons_zero,List.set_cons_succ]
    refine wpAnyH_take (i:=9) (v:=?_) A8 kR kR kR A9 (Or.inl ⟨rF,?_⟩) Aa ?_
    rotate_left 1
    ·(intro wS hSw;(try dsimp only at hSw);go_simp;try(with_reducible rfl))
    try simp only[Act.put,List.setIfInBounds_toArray,List.set_cons_zero,List.set_cons_succ]
    refine wpAnyH_done kR ?_ _;go_wp2;first|go_end0|refine bodyPost_ret (results_none rfl _ _ _) rfl ?_|(simp only[Exit.inBlock,Exit.then];refine bodyPost_ret (results_none rfl _ _ _) rfl ?_)
    exact HGG.out
  .rw[if_pos q]at hR;have q1:((n:Int)==(C:Int))=false:=sO;have q2:((n:Int) != (C:Int))=true:=sO;have HG2:Hid (∀w',BY E RB s P w w'->AX E RB s w (fun(_:Unit)=>Value.tuple #[]) R (B2 241 A) w'):=fun w' a=>by rw[<-hR];exact a.bad _ 241 A (Below.refl _ _) (B5.refl _ _)
   unfold B2 at HG2;clear hq hR h1 h2 h3 hC hP htb hts KN q;go_enter func27,ntmps27;go_upto_region 1 with fail;refine rG (fun v=>v.cell? ⟨RB,0,none⟩=some (.string s)) fun hJ=>?_;refine wpAnyH_take (i:=0) (v:=?_) A8 kR kR kR A9 (Or.inl ⟨rF,?_⟩) Aa ?_
   rotate_left 1
   ·(intro wS hSw;(try dsimp only at hSw);go_simp;try(with_reducible rfl))
   try simp only[Act.put,List.setIfInBounds_toArray,List.set_cons_zero,List.set_cons_succ]
   refine wpAnyH_take (i:=2) (v:=?_) A8 kR kR kR A9 (Or.inl ⟨rF,?_⟩) Aa ?_
   rotate_left 1
   ·(intro wS hSw;(try dsimp only at hSw);go_simp;try(with_reducible rfl))
   try simp only[Act.put,List.setIfInBounds_toArray,List.set_cons_zero,List.set_cons_succ]
   refine wpAnyH_take (i:=3) (v:=?_) A8 kR kR kR A9 (Or.inl ⟨rF,?_⟩) Aa ?_
   rotate_left 1
   ·(intro wS hSw;(try dsimp only at hSw);go_simp;try(with_reducible rfl))
   try simp only[Act.put,List.setIfInBounds_toArray,List.set_cons_zero,List.set_cons_succ]
   refine wpAnyH_take (i:=4) (v:=?_) A8 kR kR kR A9 (Or.inl ⟨rF,?_⟩) Aa ?_
   rotate_left 1
   ·(intro wS hSw;(try dsimp only at hSw);go_simp;try(with_reducible rfl))
   try simp only[Act.put,List.setIfInBounds_toArray,List.set_cons_zero,List.set_cons_succ]
   refine wpAnyH_take (i:=5) (v:=?_) A8 kR kR kR A9 (Or.inl ⟨rF,?_⟩) Aa ?_
   rotate_left 1
   ·(intro wS hSw;(try dsimp only at hSw);go_simp;try(with_reducible rfl))
   try simp only[Act.put,List.setIfInBounds_toArray,List.set_cons_zero,List.set_cons_succ]
   refine wpAnyH_take (i:=6) (v:=?_) A8 kR kR kR A9 (Or.inl ⟨rF,?_⟩) Aa ?_
   rotate_left 1
   ·(intro wS hSw;(try dsimp only at hSw);go_simp;try(with_reducible rfl))
   try simp only[Act.put,List.setIfInBounds_toArray,List.set_cons_zero,List.set_cons_succ]
   refine wpAnyH_take (i:=7) (v:=?_) A8 kR kR kR A9 (Or.inl ⟨rF,?_⟩) Aa ?_
   rotate_left 1
   ·(intro wS hSw;(try dsimp only at hSw);go_simp;try(with_reducible rfl))
   try simp only[Act.put,List.setIfInBounds_toArray,List.set_cons_zero,List.set_cons_succ]
   clear hJ;refine AP 1 fun K hK=>?_;go_simp;(go_at_call 58;(rw[HV.out]);(with_reducible refine KN'.out.mono ?_);rintro e9 w5 ⟨rfl,hb5,ho5,hm5,hl5,hd5⟩;have HB5:=A6 hb5;have HO5:=A6 ho5;have HM5:=A6 hm5;have d0:=hm5.c0;clear hb5 ho5 hm5 hl5 hd5);try(go_wp2_with fail)
   refine AW hK fun hJ=>?_;clear hK K;clear hJ;refine AP 8 fun K hK=>?_;go_simp;(go_at_call 19;(with_reducible refine(KP.out _).mono ?_);rintro e9 w6 ⟨rfl,rfl⟩);try(go_wp2_with fail)
   refine AW hK fun hJ=>?_;clear hK K;refine wpAnyH_take (i:=9) (v:=?_) A8 kR kR kR A9 (Or.inl ⟨rF,?_⟩) Aa ?_
   rotate_left 1
   ·(intro wS hSw;(try dsimp only at hSw);go_simp;try(with_reducible rfl))
   try simp only[Act.put,List.setIfInBounds_toArray,List.set_cons_zero,List.set_cons_succ]
   refine wpAnyH_done kR ?_ _;have HGG:=A6 (HG2.out _ (HG.out _ HB5.out HO5.out HM5.out));go_wp2;exact⟨rfl,HGG.out⟩
theorem II(E RB:Nat)(s:ByteArray)(A:Nat)(w:World)(h:BB E RB s A w)(hA:A<=s.size)(hs:s.size<=281474976710656)(hE:E<=w.heap.size):
 Calls prog 50 #[.pointer (some ⟨RB,0,none⟩),.int .i64 64,.func (.func 51) #[.pointer (some ⟨RB,0,none⟩)] #[]] w (Ez E RB s w 59 3 As (Bq 64 CY ((Ab s).drop A) A)):=by
 have KN:Calls prog 84 #[.pointer (some ⟨RB,0,none⟩),.int .i64 64] w (AX E RB s w (fun(b:Nat)=>.int .i64 (b:Int)) (B4 64 ((Ab s).drop A) A)):=CN E RB s A 64 w h hA hs hE;have hRB:RB<w.heap.size:=h.b.lt;cases hq:B4 64 ((Ab s).drop A) A with
 |error er=>
  obtain⟨er,at_⟩:=er;have HP:Hid (Bq 64 CY ((Ab s).drop A) A=.error (er,at_)):=by show Bq _ _ _ _=_;unfold Bq;exact An hq
  rw[HP.out];rw[hq]at KN;have KN':=A6 KN;unfold AX B2 at KN';unfold Ez B2;simp only at KN' |-;clear h KN hq HP hRB;go_enter func50,ntmps50;exact QL
 |ok r=>
  obtain⟨N,l1,A1⟩:=r;have hN:=CU hq;rw[hq]at KN;have KN':=A6 KN;unfold AX at KN';simp only at KN';have HST:Hid (l1=(Ab s).drop A1->Bq 64 CY ((Ab s).drop A) A=Bb CY (N-0) [] ((Ab s).drop A1) A1):=fun e=>by
   exact QW
  obtain⟨R,hR⟩:=gA (Bq 64 CY ((Ab s).drop A) A)
  rw[hR]at HST |-;have HRB:=A6 hRB;have HE:=A6 hE;have HS:=A6 hs;clear h KN hq hR hRB hA hs hE;go_enter func50,ntmps50;go_upto_block 0 with(go_at_call 84;(with_reducible refine KN'.out.mono ?_);rintro e9 w4 ⟨rfl,hb4,ho4,hm4,hl4,hd4⟩;have HJ0:=A6 (And.intro hb4 (And.intro ho4 (And.intro hm4 (And.intro hl4 hd4))));clear hb4 ho4 hm4 hl4 hd4)
  go_wp2_with fail
  go_loopw [7,11] (fun lv iv wx=>∃ (k A':Nat) (xs:List Bd) (p:Option Addr) (q:Nat),k<=N/\iv=.int .i64 (k:Int)/\lv=.slice p k q/\Hid (xs.length=k/\Below E w wx/\B5 RB w wx/\BB E RB s A' wx/\A'<=s.size/\wx.ownsRow w.heap.size 59 3 (.slice p k q) k (AH As xs)/\R=Bb CY (N-k) xs ((Ab s).drop A') A')) (fun _ iv _=>N-(intOf iv).toNat)
  case atStart=>
   obtain⟨j1,j2,j3,j4,j5⟩:=HJ0.out;exact⟨0,A1,[],none,0,gI _,rfl,rfl,rfl,j1,j2,j3,j4,World.ownsRow_nil _ _ _ 3,HST.out j5⟩
  case round=>
   clear HJ0 HST KN';obtain⟨k,A',xs,p,q,hk,rfl,rfl,HJ⟩:=hrel;by_cases hlt:k<N
   .obtain⟨j1,j2,j3,j4,j5,j6,j7⟩:=HJ.out;have e1:(k:Int)<(N:Int):=oM;have hEr:E<=wr.heap.size:=gH HE.out j3.1;have KX:=Kx E RB s A' wr j4 j5 HS.out hEr;rw[show N-k=(N-(k+1))+1 by omega,Cx]at j7;cases hq2:CY ((Ab s).drop A') A' with
    |error er=>
     obtain⟨er,at_⟩:=er;rw[An hq2]at j7;rw[hq2]at KX;have KX':=A6 KX;unfold AX B2 at KX';simp only at KX';have HG:Hid (∀w',Below E wr w'->B5 RB wr w'->Ez E RB s w 59 3 As R (B2 er at_) w'):=fun w' a b=>by rw[j7];exact⟨rfl,j2.trans a,j3.trans b⟩
     unfold B2 at HG;clear j1 j2 j3 j4 j5 j6 j7 hq2 KX HJ hEr hlt;go_wp2_with(go_at_call 51;(with_reducible refine KX'.out.mono ?_);rintro e9 w5 ⟨rfl,hb5,ho5⟩;have HR5:=A6 (HG.out _ hb5 ho5);clear hb5 ho5);exact⟨rfl,HR5.out⟩
    |ok r=>
     obtain⟨x,l2,A2⟩:=r;rw[Au hq2]at j7;rw[hq2]at KX;have KX':=A6 KX;unfold AX at KX';simp only[pv]at KX';have HAP:Hid (∀w5,B5 RB wr w5->∃g c' w6,(Builtin.append_ #[22,22] 22 #[.slice p k q,.slice (some ⟨w5.heap.size,0,none⟩) 1 1]).run prog (w5.alloc (.cells #[.string (x.name),.int .i64 (x.kind),.int .i64 (x.len)] 59))=.ok (.slice (some ⟨g,0,none⟩) (k+1) c') w6/\Below w.heap.size w5 w6/\w6.ownsRow w.heap.size 59 3 (.slice (some ⟨g,0,none⟩) (k+1) c') (k+1) (AH As (xs++[x]))):=fun w5 ho=>by
      have hown:w5.ownsRow w.heap.size 59 3 (.slice p k q) k (AH As xs):=Ae j6 fun b hb=>ho.2 b (j6.lt b hb).2 (fun e=>by have:=(j6.lt b hb).1;have:=HRB.out;omega);obtain⟨g,c',w6,a1,a2,a3,-⟩:=BN underlying22 Fr rfl dE hown (gH j3.1 ho.1) #[.string (x.name),.int .i64 (x.kind),.int .i64 (x.len)] rfl (fun u hu=>Ho x u hu) mL oM 22;exact QX
     have HG:Hid (∀w5 w6,Below E wr w5->B5 RB wr w5->BB E RB s A2 w5->Below w.heap.size w5 w6->Below E w w6/\B5 RB w w6/\BB E RB s A2 w6):=fun w5 w6 a b c d=>
      ⟨(j2.trans a).trans (d.mono HE.out),⟨gH (j3.trans b).1 d.size,fun i hi hne=>(d.block i hi).trans ((j3.trans b).2 i hi hne)⟩,⟨c.b.of_block (d.block _ HRB.out),c.ge⟩⟩
     have HXL:Hid ((xs++[x]).length=k+1):=by show _=_;rw[List.length_append,j1];rfl
     have H7:=A6 j7;have wi:IntKind.i64.wrap ((k:Int)+1)=((k+1:Nat):Int):=by rw[IntKind.wrap_i64];omega
     clear j1 j2 j3 j4 j5 j6 j7 hq2 KX HJ hEr;go_wp2_with(first|(go_at_call 51;(with_reducible refine KX'.out.mono ?_);rintro e9 w5 ⟨rfl,hb5,ho5,hm5,hl5,hd5⟩;obtain⟨g,c',w6,hrun,hb6,ho6⟩:=HAP.out w5 ho5;have HRUN:=A6 hrun;have HO6:=A6 ho6;have HQ:=A6 (HG.out w5 w6 hb5 ho5 hm5 hb6);have HL5:=A6 hl5;have HD5:=A6 hd5;clear hb5 ho5 hm5 hl5 hd5 hrun hb6 ho6)|(at_builtin;refine B1 rF _ _ _ rF _ _ _ rF rF HRUN.out ?_));exact QK
   .obtain⟨j1,j2,j3,j4,j5,j6,j7⟩:=HJ.out;have e1:¬ (k:Int)<(N:Int):=oM;rw[show N-k=0 by omega,CV]at j7;have HG:Hid (Ez E RB s w 59 3 As R (.returned (.slice p k q)) wr):=by show Ez _ _ _ _ _ _ _ _ _ _;rw[j7];exact⟨_,rfl,by rw[j1];exact j6,j2,j3,j4,j5,rfl⟩
    clear j1 j2 j3 j4 j5 j6 j7 HJ hlt;go_wp2;refine bodyPost_ret (by simp[results,results50,go_sem, *];try rfl) rfl ?_;exact HG.out
theorem E8(t:ByteArray)(ht:t.size<=8)(w:World):
 Calls prog 30 #[.string t] w fun r w'=>r=.returned (.int .u64 ((Bi (Ab t):Nat):Int))/\w'=w:=by
 obtain⟨N,hN⟩:=gA (t.size)
 have HBT:=A6 (BP t);have HLN:Hid ((Ab t).length=N):=by show _=_;rw[Ah];exact hN
 have wL:IntKind.i64.wrap ((N:Int)-1)=(N:Int)-1:=by rw[IntKind.wrap_i64];omega
 have HN8:Hid (N<=8):=by show N<=8;omega
 go_enter func30,ntmps30;go_wp2_with fail
 go_loopw [3,4] (fun nv iv wx=>wx=w/\∃k n:Nat,k<=N/\iv=.int .i64 ((k:Int)-1)/\nv=.int .u64 (n:Int)/\Hid (n=Bi ((Ab t).drop k))) (fun _ iv _=>(intOf iv+1).toNat)
 case atStart=>exact⟨rfl,N,0,gF _,rfl,rfl,by show 0=_;rw[List.drop_eq_nil_of_le (by rw[HLN.out];exact gF _)];rfl⟩
 case round=>
  obtain⟨rfl,k,n,hk,rfl,rfl,HM⟩:=hrel;cases k with
  |zero=>
   have e1:¬ (0:Int)<=(((0:Nat):Int)-1):=oM;have HF:Hid (Bi (Ab t)=n):=by show _=_;rw[HM.out];rfl
   go_wp2;refine bodyPost_ret (by simp[results,results30,go_sem, *];try rfl) rfl ?_;exact⟨by rw[HF.out],rfl⟩
  |succ j=>
   have ej:((j+1:Nat):Int)-1=(j:Int):=oM;rw[ej];have hj:j<t.size:=oM;have i1:(0:Int)<=(j:Int):=oM;have i2:(j:Int)<(N:Int):=oM;have hdrop:=Dv hj;obtain⟨B,hB⟩:=gA (t[j].toNat)
   rw[hB]at hdrop;have hB2:B<256:=by rw[<-hB];exact t[j].toNat_lt
   have hln:((Ab t).drop (j+1)).length=N-(j+1):=by rw[List.length_drop,HLN.out]
   have hn:n<256^(N-(j+1)):=by
    have h9:=Ej ((Ab t).drop (j+1)) (fun b hb=>HBT.out b (List.mem_of_mem_drop hb));rw[hln,<-HM.out]at h9;exact h9
   have hpw:256^(N-(j+1))*256<=2^64:=by
    rw[<-Nat.pow_succ,show(2:Nat)^64=256^8 by decide];exact Nat.pow_le_pow_right dE (by have:=HN8.out;omega)
   have hn7:n*256<2^64:=Nat.lt_of_lt_of_le (Nat.mul_lt_mul_of_pos_right hn dE) hpw;obtain⟨T,hT⟩:=gA (n*256)
   rw[hT]at hn7;have hsh:(n:Int)*2^8=(T:Int):=by rw[<-hT,Int.natCast_mul];rfl
   have hsh':(n:Int)*256=(T:Int):=by rw[<-hT,Int.natCast_mul];rfl
   have t3:IntKind.u64.wrap (T:Int)=(T:Int):=by unfold IntKind.wrap;simp[IntKind.signed,IntKind.bits];omega
   have t2:IntKind.u64.wrap (B:Int)=(B:Int):=by unfold IntKind.wrap;simp[IntKind.signed,IntKind.bits];omega
   obtain⟨M,hM⟩:=gA (T+B)
   have hor:bits .or .u64 (T:Int) (B:Int)=(M:Int):=by
    rw[OK oM oM,<-hT,show(256:Nat)=2^8 by decide,Nat.mul_comm n,<-Nat.two_pow_add_eq_or_of_lt oM,Nat.mul_comm _ n,show(2:Nat)^8=256 by decide,hT,hM]
   have HQ:Hid (M=Bi ((Ab t).drop j)):=by
    show M=_;rw[hdrop];show M=B+256*Bi ((Ab t).drop (j+1));rw[<-HM.out];omega
   have wj:IntKind.i64.wrap ((j:Int)-1)=(j:Int)-1:=by rw[IntKind.wrap_i64];omega
   clear hdrop hln hn hpw hn7 hT hM HM HBT;go_wp2;go_roundw
   case rel=>exact⟨trivial,j,M,oM,rfl,rfl,HQ.out⟩
   case measure=>simp[intOf]
theorem Lz{s:ByteArray}{A A1:Nat}{e e1 p p1:Int}{t:ByteArray}(h:Af (CZ 1) (Ab s) A e A1 e1 p p1 t)(h1:e1≠0)(lo hi x:Nat):Af (AO lo hi) (Ab s) A e A1 e1 p p1 x:=by
 refine⟨h.1,fun he hA=>?_⟩;have h2:=h.2 he hA;unfold CZ Ac Bg Ax at h2;cases hl:(Ab s).drop A with
 |nil=>
  rw[hl]at h2;exact h2
 |cons b l=>
  rw[hl,if_neg sM]at h2;exact absurd h2.1 h1
theorem NC{s:ByteArray}{A A1:Nat}{e p p1:Int}{t:ByteArray}(h:Af (CZ 1) (Ab s) A e A1 0 p p1 t)(hA:e=0->A<=s.size):e=0/\A1<=s.size/\∃ht:t.size=1,∀ (lo hi B:Nat),t[0].toNat=B->((lo<=B/\B<=hi)->Af (AO lo hi) (Ab s) A 0 A1 0 p p1 B)/\(¬ (lo<=B/\B<=hi)->∀ (A2 x:Nat),Af (AO lo hi) (Ab s) A 0 A2 243 p (A:Int) x):=by
 have hA':e=0->A<=(Ab s).length:=fun h=>by rw[Ah];exact hA h
 obtain⟨he,h1⟩:=h.zero rfl hA';rw[Ah]at h1;refine⟨he,h1,?_⟩;have h2:=h.2 he (hA' he);by_cases hl:A<s.size
 .have hx:CZ 1 ((Ab s).drop A) A=.ok (s.extract A (A+1),(Ab s).drop (A+1),A+1):=GD oM;rw[hx]at h2;obtain⟨-,hA1,-,-,ht⟩:=h2;obtain⟨t',hte,ht',hb⟩:=J5 hl;rw[hte]at ht;subst ht;refine⟨ht',fun lo hi B hB=>?_⟩;rw[hB]at hb;rw[hA1];have hd:=Dv hl;rw[<-hb]at hd;refine⟨fun hq=>Af.ok ?_ (by rw[Ah];omega),fun hq A2 x=>Af.err _ ?_ dE⟩
  .rw[hd];show(if B<lo\/hi<B then _ else _)=_;rw[if_neg oM]
  .rw[hd];show(if B<lo\/hi<B then _ else _)=_;rw[if_pos oM]
 .have hx:CZ 1 ((Ab s).drop A) A=.error (242,A):=FA (hA he) oM;rw[hx]at h2;exact absurd h2.2.1.symm h2.1
theorem Ep(s:ByteArray)(A:Nat)(e p:Int)(lo hi:Nat)(w:World)(hA:e=0->A<=s.size)(hs:s.size<=281474976710656):
 Calls prog 60 #[.agg #[.string s,.int .i64 (A:Int),.int .i64 e,.int .i64 p],.int .i64 (lo:Int),.int .i64 (hi:Int)] w (BZ w.heap.size w s A e p (AO lo hi) (fun(n:Nat)=>.int .i64 (n:Int)) (fun n=>n<=hi)):=by
 obtain⟨C,hC⟩:=gA (w.heap.size)
 obtain⟨W1,hW1⟩:∃W,w.alloc (.cells #[.string s,.int .i64 (A:Int),.int .i64 e,.int .i64 p] 78)=W:=⟨_,rfl⟩
 obtain⟨D,hD⟩:=gA (W1.heap.size)
 obtain⟨W2,hW2⟩:∃W,W1.alloc (.cells #[.string ⟨#[]⟩,.int .i64 0,.int .i64 0,.int .i64 0] 78)=W:=⟨_,rfl⟩
 have r1:W1.rowIs C 78 4 (f4 (.string s) (.int .i64 (A:Int)) (.int .i64 e) (.int .i64 p)):=by rw[<-hW1,<-hC];exact Br _ _ _ _ _ _
 have hCD:C≠D:=by have:=r1.lt;omega
 have rc:W2.rowIs C 78 4 (f4 (.string s) (.int .i64 (A:Int)) (.int .i64 e) (.int .i64 p)):=by rw[<-hW2];exact r1.alloc _
 have rd:W2.rowIs D 78 4 (f4 (.string ⟨#[]⟩) (.int .i64 0) (.int .i64 0) (.int .i64 0)):=by rw[<-hW2,<-hD];exact Br _ _ _ _ _ _
 have hb1:Below C w W1:=by rw[<-hW1,<-hC];exact A7 _ _
 have hb2:Below C w W2:=hb1.trans Qe;have hDC:C<=D:=by have:=r1.lt;omega
 obtain⟨c0,c1,c2,c3⟩:=c4 rc;obtain⟨d0,d1,d2,d3⟩:=c4 rd;obtain⟨fc0,fc1,fc2,fc3⟩:=z4 rc;obtain⟨fd0,fd1,fd2,fd3⟩:=z4 rd;have hDCn:=hCD.symm;have HDC2:=A6 hDCn;have RC:=A6 rc;have RD:=A6 rd;have HB2:=A6 hb2;have HDC:=A6 hDC;have HC:=A6 hC;have HCW:Hid (C<=W2.heap.size):=Nat.le_of_lt rc.lt;have HA:=A6 hA;have KF:=A6 (fun(a b:Int) v=>CA s a b 243 (A:Int) v);have KS:Hid (∀v,Calls prog 29 #[.agg #[.string s,.int .i64 (A:Int),.int .i64 e,.int .i64 p],.int .i64 1] v (BZ v.heap.size v s A e p (CZ 1) (fun t=>.string t) (fun t=>t.size<=1))):=fun v=>DQ s A e p 1 v hA hs dE;unfold BZ at KS;clear r1 rc rd hb1 hb2 hDC hA hs;go_enter func60,ntmps60;go_upto_region 1 with fail;try rw[hC]
 try rw[hW1]
 try rw[hD]
 try rw[hW2]
 clear hC hW1 hD hW2;go_upto_region 3 with(go_at_call 29;(with_reducible refine(KS.out _).mono ?_);rintro r9 w5 ⟨A1,e1,p1,t,rfl,hts,hR,hb5⟩;have rc5:=RC.out.of_block (hb5.block _ RC.out.lt);have rd5:=RD.out.of_block (hb5.block _ RD.out.lt);obtain⟨m0,m1,m2,m3⟩:=c4 rc5;obtain⟨g0,g1,g2,g3⟩:=z4 rc5;have HB5:=A6 (HB2.out.trans (hb5.mono HCW.out));have hq:=AI rc5 (.string s) (.int .i64 (A1:Int)) (.int .i64 e1) (.int .i64 p1);have rd6:=hq.2.row rd5 HDC2.out;have HB6:=A6 (HB5.out.trans (hq.2.bel C (gF _)));have RC6:=A6 hq.1;have RD6:=A6 rd6;have HR:=A6 hR;clear hb5 rd5 rc5 hq rd6 hR)
 obtain⟨W6,hP6⟩:∃W,(((w5.setCell ⟨C,0,none⟩ (.string s)).setCell ⟨C,1,none⟩ (.int .i64 (A1:Int))).setCell ⟨C,2,none⟩ (.int .i64 e1)).setCell ⟨C,3,none⟩ (.int .i64 p1)=W:=⟨_,rfl⟩
 have RCW:=RC6.out;have RDW:=RD6.out;have HBW:=HB6.out;rw[hP6]at RCW RDW HBW;try rw[hP6]
 clear c0 c1 c2 c3 d0 d1 d2 d3 fc0 fc1 fc2 fc3 fd0 fd1 fd2 fd3 hP6 RC6 RD6 HB6 m0 m1 m2 m3 g0 g1 g2 g3;obtain⟨k0,k1,k2,k3⟩:=c4 RCW;obtain⟨j0,j1,j2,j3⟩:=c4 RDW;obtain⟨fj0,fj1,fj2,fj3⟩:=z4 RDW;have HCW6:Hid (C<=W6.heap.size):=Nat.le_of_lt RCW.lt;have RDW:=A6 RDW;have HBW:=A6 HBW;clear RCW;by_cases he:e1=0
 .subst he;obtain⟨he,hA1,ht,hrel⟩:=NC HR.out HA.out;subst he;obtain⟨B,hB⟩:=gA (t[0].toNat)
  have hB2:B<256:=by rw[<-hB];exact t[0].toNat_lt
  have wB:IntKind.i64.wrap (B:Int)=(B:Int):=by rw[IntKind.wrap_i64];omega
  have HREL:=A6 (hrel lo hi B hB);clear hrel hA1;by_cases q1:lo<=B
  .by_cases q2:B<=hi
   .have e5:¬ (B:Int)<(lo:Int):=oM;have e6:¬ (hi:Int)<(B:Int):=oM;have HOK:=A6 (HREL.1 ⟨q1,q2⟩);have HQ2:=A6 q2;have hq:=AI RDW.out (.string s) (.int .i64 (A1:Int)) (.int .i64 0) (.int .i64 p1);obtain⟨W8,hPW8⟩:∃W,(((W6.setCell ⟨D,0,none⟩ (.string s)).setCell ⟨D,1,none⟩ (.int .i64 (A1:Int))).setCell ⟨D,2,none⟩ (.int .i64 0)).setCell ⟨D,3,none⟩ (.int .i64 p1)=W:=⟨_,rfl⟩
    rw[hPW8]at hq;obtain⟨l0,l1,l2,l3⟩:=c4 hq.1;have HB:Hid (Below w.heap.size w W8):=by show Below _ _ _;rw[HC.out];exact HBW.trans (hq.2.bel C HDC.out)
    clear hq q1 q2;go_wp2_with fail;try rw[hPW8]
    refine bodyPost_ret (by simp[results,results60,go_sem, *];try rfl) rfl ?_;exact⟨A1,0,p1,B,rfl,HQ2.out,HOK.out,HB.out⟩
   .have e5:¬ (B:Int)<(lo:Int):=oM;have e6:(hi:Int)<(B:Int):=oM;have HBAD:=A6 (HREL.2 oM);clear q1 q2;exact Sn
  .have e5:(B:Int)<(lo:Int):=oM;have HBAD:=A6 (HREL.2 oM);clear q1;exact Sn
 .have q1:(e1==0)=false:=beq_eq_false_iff_ne.2 he;have HBAD:=A6 (Lz HR.out he lo hi 0);have hq:=AI RDW.out (.string s) (.int .i64 (A1:Int)) (.int .i64 e1) (.int .i64 p1);obtain⟨W8,hPW8⟩:∃W,(((W6.setCell ⟨D,0,none⟩ (.string s)).setCell ⟨D,1,none⟩ (.int .i64 (A1:Int))).setCell ⟨D,2,none⟩ (.int .i64 e1)).setCell ⟨D,3,none⟩ (.int .i64 p1)=W:=⟨_,rfl⟩
  rw[hPW8]at hq;obtain⟨l0,l1,l2,l3⟩:=c4 hq.1;have HB:Hid (Below w.heap.size w W8):=by show Below _ _ _;rw[HC.out];exact HBW.trans (hq.2.bel C HDC.out)
  clear hq;go_wp2_with fail;try rw[hPW8]
  refine bodyPost_ret (by simp[results,results60,go_sem, *];try rfl) rfl ?_;exact⟨A1,e1,p1,0,rfl,gI _,HBAD.out,HB.out⟩
def Ns(E RB:Nat)(s:ByteArray)(w:World)(q:Except (Int×Nat) (Cd×List Nat×Nat))(e:Ending)(w':World):Prop:=
 match q with
 | .error (er,at_)=>e=B2 er at_/\Below E w w'/\B5 RB w w'
 | .ok (c,l',A')=>∃p0 q0 p1 q1 p2 q2 p3 q3,e=.returned (.agg #[.slice p0 c.sign.length q0,.slice p1 c.regs.length q1,.slice p2 c.slots.length q2,.slice p3 c.list.length q3])/\EE w.heap.size w' (.slice p0 c.sign.length q0) (.slice p1 c.regs.length q1) (.slice p2 c.slots.length q2) (.slice p3 c.list.length q3) c/\Below E w w'/\B5 RB w w'/\BB E RB s A' w'/\A'<=s.size/\l'=(Ab s).drop A'
theorem BY.badC{E RB:Nat}{s:ByteArray}{A:Nat}{w v v':World}(h:BY E RB s A w v)(er:Int)(at_:Nat)(a:Below E v v')(b:B5 RB v v'):Ns E RB s w (.error (er,at_)) (B2 er at_) v':=⟨rfl,h.1.trans a,h.2.1.trans b⟩
theorem B3{B B':Nat}{w:World}{t:TypeId}{k n:Nat}{u:Value}{xs:List Value}(h:w.ownsRow B t k u n xs)(hB:B'<=B):w.ownsRow B' t k u n xs:=⟨h.1,h.2.imp id fun⟨g,cap,cur,e,hb,r⟩=>⟨g,cap,cur,e,gH hB hb,r⟩⟩
theorem Cc{B RB:Nat}{w w':World}{t:TypeId}{k n:Nat}{u:Value}{xs:List Value}(h:w.ownsRow B t k u n xs)(hR:RB<B)(r:B5 RB w w'):w'.ownsRow B t k u n xs:=Ae h fun b hb=>r.2 b (h.lt b hb).2 RZ
theorem AA{B Y o:Nat}{w:World}{x:Value}{t:TypeId}{k n:Nat}{u:Value}{xs:List Value}(h:w.ownsRow B t k u n xs)(hY:Y<B):(w.setCell ⟨Y,o,none⟩ x).ownsRow B t k u n xs:=Ae h fun b hb=>gE (by show b≠Y;have:=(h.lt b hb).1;omega)
theorem KG(E RB:Nat)(s:ByteArray)(w:World)(h:BB E RB s 0 w)(hs:s.size<=281474976710656)(hE:E<=w.heap.size):
 Calls prog 26 #[.pointer (some ⟨RB,0,none⟩)] w (Ns E RB s w (IA (Ab s) 0)):=by
 have hmf:∀ (fn:Fn) (first cap:Array Value) (w:World),(Instr.makeFunc fn first cap).run prog w=.ok (.func fn first cap) w:=fun _ _ _ _=>rfl;obtain⟨W0,hW0⟩:∃W,w.alloc (.cells #[.slice none 0 0,.slice none 0 0,.slice none 0 0,.slice none 0 0] 27)=W:=⟨_,rfl⟩
 have hb0:Below w.heap.size w W0:=by rw[<-hW0];exact A7 _ _
 have h0:=h.below hb0;have hE0:E<=W0.heap.size:=gH hE hb0.size;obtain⟨X,hX⟩:=gA (w.heap.size)
 have hXR:X≠RB:=by have:=h.b.lt;omega
 have hr0:W0.rowIs X 27 4 (f4 (.slice none 0 0) (.slice none 0 0) (.slice none 0 0) (.slice none 0 0)):=by
  rw[<-hW0,<-hX];exact SE
 have KS:=LP E RB s W0 h0 hs hE0;obtain⟨R,hR⟩:=gA (IA (Ab s) 0)
 rw[hR];unfold IA at hR;have HRS:=A6 ((BY.start h).below hE hb0);cases hq:Fz (Ab s) 0 with
 |error er=>
  obtain⟨er,at_⟩:=er;have HP:R=.error (er,at_):=by rw[<-hR];exact An hq
  rw[hq]at KS;have KS':=A6 KS;have HG:Hid (∀w',Below E W0 w'->B5 RB W0 w'->Ns E RB s w R (B2 er at_) w'):=fun w' a b=>by rw[HP];exact HRS.badC er at_ a b
  unfold AX B2 at KS';unfold B2 at HG;simp only at KS';clear h h0 hb0 hr0 KS hq HP hR hX hXR hE0;go_enter func26,ntmps26;go_upto_region 1 with fail;try rw[hW0]
  clear hW0;go_wp2_with(go_at_call 49;(with_reducible refine KS'.out.mono ?_);rintro e9 w4 ⟨rfl,hb4,ho4⟩;have HR5:=A6 (HG.out _ hb4 ho4);clear hb4 ho4);exact⟨rfl,HR5.out⟩
 |ok r=>
  obtain⟨u9,l',A0⟩:=r;rw[Au hq]at hR;unfold Bp at hR;rw[hq]at KS;have KS':=A6 KS;unfold AX at KS';simp only at KS';have HR0:=A6 hr0;have HRB:=A6 h.b.lt;have HX:Hid (w.heap.size<=X):=Nat.le_of_eq hX;have HRR:=A6 hR;clear h h0 hb0 hr0 KS hE0 hR hq;go_enter func26,ntmps26;go_upto_region 1 with fail;try rw[hW0]
  try rw[hX]
  clear hW0 hX;go_upto_region 3 with(go_at_call 49;(with_reducible refine KS'.out.mono ?_);rintro e9 w4 ⟨rfl,hb4,ho4,hm4,hl4,hd4⟩;have HB4:=A6 hb4;have HO4:=A6 ho4;have HM4:=A6 hm4;have HD4:=A6 hd4;have HL0:=A6 hl4;clear hb4 ho4 hm4 hl4 hd4)
  obtain⟨Y,hY⟩:=gA (w4.heap.size)
  obtain⟨V0,hV⟩:∃V,w4.alloc (.cells #[.slice none 0 0,.slice none 0 0,.slice none 0 0,.slice none 0 0] 27)=V:=⟨_,rfl⟩
  have hbV:Below w4.heap.size w4 V0:=by rw[<-hV];exact A7 _ _
  have r4:=AD HO4.out HR0.out hXR;have rx0:=r4.of_block (hbV.block _ r4.lt);have ry0:V0.rowIs Y 27 4 (f4 (.slice none 0 0) (.slice none 0 0) (.slice none 0 0) (.slice none 0 0)):=by
   rw[<-hV,<-hY];exact World.rowIs_alloc w4 #[.slice none 0 0,.slice none 0 0,.slice none 0 0,.slice none 0 0] 27 _ (fun i hi=>by
    rcases(show i=0\/i=1\/i=2\/i=3 by have:i<4:=hi;omega)with rfl|rfl|rfl|rfl<;>rfl)
  have hXY:X≠Y:=by have:=r4.lt;omega
  have hXl:X<Y+1:=by have:=r4.lt;omega
  have hYR:Y≠RB:=by have:=HM4.b.lt;omega
  have hRY:RB<Y+1:=by have:=HM4.b.lt;omega
  have hwY:w.heap.size<=Y:=by have:=r4.lt;have:=HX.out;omega
  have D0:BY E RB s A0 w V0:=((HRS.next HB4.out HO4.out HM4.out).below hE hbV)
  have hR:=HRR.out;rw[HD4.out]at hR;try rw[hV]
  try rw[hY]
  clear hV hY hbV HRR KS' HB4 HO4 HM4 HD4 HR0 HRS r4;have KN:=II E RB s A0 V0 D0.2.2 HL0.out hs (gH hE D0.2.1.1);cases hq0:Bq 64 CY ((Ab s).drop A0) A0 with
  |error er=>
   obtain⟨er,at_⟩:=er;rw[An hq0]at hR;rw[hq0]at KN;have KN':=A6 KN;unfold Ez B2 at KN';simp only at KN';have HG:Hid (∀w',Below E V0 w'->B5 RB V0 w'->Ns E RB s w R (B2 er at_) w'):=fun w' a b=>by rw[<-hR];exact D0.badC er at_ a b
   unfold B2 at HG;clear D0 KN hq0 hR rx0 ry0;go_wp2_with(go_at_call 50;(with_reducible refine KN'.out.mono ?_);rintro e9 w7 ⟨rfl,hb7,ho7⟩;have HR7:=A6 (HG.out _ hb7 ho7);clear hb7 ho7);exact⟨rfl,HR7.out⟩
  |ok r=>
   obtain⟨s0,l0,A1⟩:=r;rw[Au hq0]at hR;rw[hq0]at KN;have KN':=A6 KN;unfold Ez at KN';simp only at KN';have HYV:Hid (Y+1<=V0.heap.size):=ry0.lt;have HG:Hid (∀w',Below E V0 w'->B5 RB V0 w'->BB E RB s A1 w'->BY E RB s A1 w w'/\w'.rowIs X 27 4 (f4 (.slice none 0 0) (.slice none 0 0) (.slice none 0 0) (.slice none 0 0))/\w'.rowIs Y 27 4 (f4 (.slice none 0 0) (.slice none 0 0) (.slice none 0 0) (.slice none 0 0))):=fun w' a b c=>⟨D0.next a b c,AD b rx0 hXR,AD b ry0 hYR⟩
   have HRR:=A6 hR;clear D0 KN hq0 hR rx0 ry0;go_upto_region 4 with(go_at_call 50;(with_reducible refine KN'.out.mono ?_);rintro e9 w7 ⟨v7,rfl,hw7,hb7,ho7,hm7,hl7,hd7⟩;obtain⟨p0,q0,rfl⟩:=AF hw7;obtain⟨D7,x7,z7⟩:=HG.out _ hb7 ho7 hm7;have HL1:=A6 hl7;have HD7:=A6 hd7;have HW7:=A6 (B3 hw7 HYV.out);have y7:w7.cell? ⟨Y,0,none⟩=some (.slice none 0 0):=z7.cell (i:=0) dE;have f7:=z7.frozen 0;clear hb7 ho7 hm7 hl7 hd7 hw7)
   obtain⟨V1,hV3⟩:∃V3,w7.setCell ⟨Y,0,none⟩ (.slice p0 s0.length q0)=V3:=⟨_,rfl⟩
   have rx1:=x7.of_block (w':=V1) OF;have AP:V1.rowIs Y 27 4 (f4 (.slice p0 s0.length q0) (.slice none 0 0) (.slice none 0 0) (.slice none 0 0)):=by
    rw[<-hV3];exact(z7.set 0 (.slice p0 s0.length q0)).congr fun j hj=>by
     exact IZ
   have D1:BY E RB s A1 w V1:=by rw[<-hV3];exact D7.set hE HRB.out hwY 0 _
   have o0:V1.ownsRow (Y+1) 59 3 (.slice p0 s0.length q0) s0.length (AH As s0):=by rw[<-hV3];exact AA HW7.out oM
   have hR:=HRR.out;rw[HD7.out]at hR;try rw[hV3]
   clear hV3 D7 x7 z7 y7 f7 KN' HG HRR HD7 HYV HW7;have KN:=IK E RB s A1 V1 D1.2.2 HL1.out hs (gH hE D1.2.1.1);cases hq1:Bq 16384 Eg ((Ab s).drop A1) A1 with
   |error er=>
    obtain⟨er,at_⟩:=er;rw[An hq1]at hR;rw[hq1]at KN;have KN':=A6 KN;unfold Ez B2 at KN';simp only at KN';have HG:Hid (∀w',Below E V1 w'->B5 RB V1 w'->Ns E RB s w R (B2 er at_) w'):=fun w' a b=>by rw[<-hR];exact D1.badC er at_ a b
    unfold B2 at HG;clear D1 KN hq1 hR rx1 AP o0;go_wp2_with(go_at_call 52;(with_reducible refine KN'.out.mono ?_);rintro e9 w7 ⟨rfl,hb7,ho7⟩;have HR7:=A6 (HG.out _ hb7 ho7);clear hb7 ho7);exact⟨rfl,HR7.out⟩
   |ok r=>
    obtain⟨s1,l1,A2⟩:=r;rw[Au hq1]at hR;rw[hq1]at KN;have KN':=A6 KN;unfold Ez at KN';simp only at KN';have HYV:Hid (Y+1<=V1.heap.size):=AP.lt;have HG:Hid (∀w',Below E V1 w'->B5 RB V1 w'->BB E RB s A2 w'->BY E RB s A2 w w'/\w'.rowIs X 27 4 (f4 (.slice none 0 0) (.slice none 0 0) (.slice none 0 0) (.slice none 0 0))/\w'.rowIs Y 27 4 (f4 (.slice p0 s0.length q0) (.slice none 0 0) (.slice none 0 0) (.slice none 0 0))/\w'.ownsRow (Y+1) 59 3 (.slice p0 s0.length q0) s0.length (AH As s0)):=fun w' a b c=>⟨D1.next a b c,AD b rx1 hXR,AD b AP hYR,Cc o0 hRY b⟩
    have HRR:=A6 hR;clear D1 KN hq1 hR rx1 AP o0;go_upto_region 5 with(go_at_call 52;(with_reducible refine KN'.out.mono ?_);rintro e9 w7 ⟨v7,rfl,hw7,hb7,ho7,hm7,hl7,hd7⟩;obtain⟨p1,q1,rfl⟩:=AF hw7;obtain⟨D7,x7,z7,k0⟩:=HG.out _ hb7 ho7 hm7;have HL2:=A6 hl7;have HD7:=A6 hd7;have HW7:=A6 (B3 hw7 HYV.out);have y7:w7.cell? ⟨Y,1,none⟩=some (.slice none 0 0):=z7.cell (i:=1) dE;have f7:=z7.frozen 1;clear hb7 ho7 hm7 hl7 hd7 hw7)
    obtain⟨V2,hV3⟩:∃V3,w7.setCell ⟨Y,1,none⟩ (.slice p1 s1.length q1)=V3:=⟨_,rfl⟩
    have rx2:=x7.of_block (w':=V2) OF;have ry2:V2.rowIs Y 27 4 (f4 (.slice p0 s0.length q0) (.slice p1 s1.length q1) (.slice none 0 0) (.slice none 0 0)):=by
     rw[<-hV3];exact(z7.set 1 (.slice p1 s1.length q1)).congr fun j hj=>by
      exact IZ
    have D2:BY E RB s A2 w V2:=by rw[<-hV3];exact D7.set hE HRB.out hwY 1 _
    have o0:V2.ownsRow (Y+1) 59 3 (.slice p0 s0.length q0) s0.length (AH As s0):=by rw[<-hV3];exact AA k0 oM
    have o1:V2.ownsRow (Y+1) 62 2 (.slice p1 s1.length q1) s1.length (AH Ed s1):=by rw[<-hV3];exact AA HW7.out oM
    have hR:=HRR.out;rw[HD7.out]at hR;try rw[hV3]
    clear hV3 D7 x7 z7 y7 f7 KN' HG HRR HD7 HYV HW7 k0;have KN:=IJ E RB s A2 V2 D2.2.2 HL2.out hs (gH hE D2.2.1.1);cases hq2:Bq 4096 Ff ((Ab s).drop A2) A2 with
    |error er=>
     obtain⟨er,at_⟩:=er;rw[An hq2]at hR;rw[hq2]at KN;have KN':=A6 KN;unfold Ez B2 at KN';simp only at KN';have HG:Hid (∀w',Below E V2 w'->B5 RB V2 w'->Ns E RB s w R (B2 er at_) w'):=fun w' a b=>by rw[<-hR];exact D2.badC er at_ a b
     unfold B2 at HG;clear D2 KN hq2 hR rx2 ry2 o0 o1;go_wp2_with(go_at_call 54;(with_reducible refine KN'.out.mono ?_);rintro e9 w7 ⟨rfl,hb7,ho7⟩;have HR7:=A6 (HG.out _ hb7 ho7);clear hb7 ho7);exact⟨rfl,HR7.out⟩
    |ok r=>
     obtain⟨s2,l2,A3⟩:=r;rw[Au hq2]at hR;rw[hq2]at KN;have KN':=A6 KN;unfold Ez at KN';simp only at KN';have HYV:Hid (Y+1<=V2.heap.size):=ry2.lt;have HG:Hid (∀w',Below E V2 w'->B5 RB V2 w'->BB E RB s A3 w'->BY E RB s A3 w w'/\w'.rowIs X 27 4 (f4 (.slice none 0 0) (.slice none 0 0) (.slice none 0 0) (.slice none 0 0))/\w'.rowIs Y 27 4 (f4 (.slice p0 s0.length q0) (.slice p1 s1.length q1) (.slice none 0 0) (.slice none 0 0))/\w'.ownsRow (Y+1) 59 3 (.slice p0 s0.length q0) s0.length (AH As s0)/\w'.ownsRow (Y+1) 62 2 (.slice p1 s1.length q1) s1.length (AH Ed s1)):=fun w' a b c=>⟨D2.next a b c,AD b rx2 hXR,AD b ry2 hYR,Cc o0 hRY b,Cc o1 hRY b⟩
     have HRR:=A6 hR;clear D2 KN hq2 hR rx2 ry2 o0 o1;go_upto_region 6 with(go_at_call 54;(with_reducible refine KN'.out.mono ?_);rintro e9 w7 ⟨v7,rfl,hw7,hb7,ho7,hm7,hl7,hd7⟩;obtain⟨p2,q2,rfl⟩:=AF hw7;obtain⟨D7,x7,z7,k0,k1⟩:=HG.out _ hb7 ho7 hm7;have HL3:=A6 hl7;have HD7:=A6 hd7;have HW7:=A6 (B3 hw7 HYV.out);have y7:w7.cell? ⟨Y,2,none⟩=some (.slice none 0 0):=z7.cell (i:=2) dE;have f7:=z7.frozen 2;clear hb7 ho7 hm7 hl7 hd7 hw7)
     obtain⟨V3,hV3⟩:=gA (w7.setCell ⟨Y,2,none⟩ (.slice p2 s2.length q2))
     have rx3:=x7.of_block (w':=V3) OF;have ry3:V3.rowIs Y 27 4 (f4 (.slice p0 s0.length q0) (.slice p1 s1.length q1) (.slice p2 s2.length q2) (.slice none 0 0)):=by
      rw[<-hV3];exact(z7.set 2 (.slice p2 s2.length q2)).congr fun j hj=>by
       exact IZ
     have D3:BY E RB s A3 w V3:=by rw[<-hV3];exact D7.set hE HRB.out hwY 2 _
     have o0:V3.ownsRow (Y+1) 59 3 (.slice p0 s0.length q0) s0.length (AH As s0):=by rw[<-hV3];exact AA k0 oM
     have o1:V3.ownsRow (Y+1) 62 2 (.slice p1 s1.length q1) s1.length (AH Ed s1):=by rw[<-hV3];exact AA k1 oM
     have o2:V3.ownsRow (Y+1) 66 5 (.slice p2 s2.length q2) s2.length (AH EP s2):=by rw[<-hV3];exact AA HW7.out oM
     have hR:=HRR.out;rw[HD7.out]at hR;try rw[hV3]
     clear hV3 D7 x7 z7 y7 f7 KN' HG HRR HD7 HYV HW7 k0 k1;have KN:=IH E RB s A3 V3 D3.2.2 HL3.out hs (gH hE D3.2.1.1);cases hq3:Bq 32768 Cw ((Ab s).drop A3) A3 with
     |error er=>
      obtain⟨er,at_⟩:=er;rw[An hq3]at hR;rw[hq3]at KN;have KN':=A6 KN;unfold Ez B2 at KN';simp only at KN';have HG:Hid (∀w',Below E V3 w'->B5 RB V3 w'->Ns E RB s w R (B2 er at_) w'):=fun w' a b=>by rw[<-hR];exact D3.badC er at_ a b
      unfold B2 at HG;clear D3 KN hq3 hR rx3 ry3 o0 o1 o2;go_wp2_with(go_at_call 56;(with_reducible refine KN'.out.mono ?_);rintro e9 w7 ⟨rfl,hb7,ho7⟩;have HR7:=A6 (HG.out _ hb7 ho7);clear hb7 ho7);exact⟨rfl,HR7.out⟩
     |ok r=>
      obtain⟨s3,l3,A4⟩:=r;rw[Au hq3]at hR;rw[hq3]at KN;have KN':=A6 KN;unfold Ez at KN';simp only at KN';have HYV:Hid (Y+1<=V3.heap.size):=ry3.lt;have HG:Hid (∀w',Below E V3 w'->B5 RB V3 w'->BB E RB s A4 w'->BY E RB s A4 w w'/\w'.rowIs X 27 4 (f4 (.slice none 0 0) (.slice none 0 0) (.slice none 0 0) (.slice none 0 0))/\w'.rowIs Y 27 4 (f4 (.slice p0 s0.length q0) (.slice p1 s1.length q1) (.slice p2 s2.length q2) (.slice none 0 0))/\w'.ownsRow (Y+1) 59 3 (.slice p0 s0.length q0) s0.length (AH As s0)/\w'.ownsRow (Y+1) 62 2 (.slice p1 s1.length q1) s1.length (AH Ed s1)/\w'.ownsRow (Y+1) 66 5 (.slice p2 s2.length q2) s2.length (AH EP s2)):=fun w' a b c=>⟨D3.next a b c,AD b rx3 hXR,AD b ry3 hYR,Cc o0 hRY b,Cc o1 hRY b,Cc o2 hRY b⟩
      have HRR:=A6 hR;clear D3 KN hq3 hR rx3 ry3 o0 o1 o2;go_upto_region 7 with(go_at_call 56;(with_reducible refine KN'.out.mono ?_);rintro e9 w7 ⟨v7,rfl,hw7,hb7,ho7,hm7,hl7,hd7⟩;obtain⟨p3,q3,rfl⟩:=AF hw7;obtain⟨D7,x7,z7,k0,k1,k2⟩:=HG.out _ hb7 ho7 hm7;have HL4:=A6 hl7;have HD7:=A6 hd7;have HW7:=A6 (B3 hw7 HYV.out);have y7:w7.cell? ⟨Y,3,none⟩=some (.slice none 0 0):=z7.cell (i:=3) dE;have f7:=z7.frozen 3;clear hb7 ho7 hm7 hl7 hd7 hw7)
      obtain⟨V4,hV3⟩:∃V3,w7.setCell ⟨Y,3,none⟩ (.slice p3 s3.length q3)=V3:=⟨_,rfl⟩
      have rx4:=x7.of_block (w':=V4) OF;have ry4:V4.rowIs Y 27 4 (f4 (.slice p0 s0.length q0) (.slice p1 s1.length q1) (.slice p2 s2.length q2) (.slice p3 s3.length q3)):=by
       rw[<-hV3];exact(z7.set 3 (.slice p3 s3.length q3)).congr fun j hj=>by
        exact IZ
      have D4:BY E RB s A4 w V4:=by rw[<-hV3];exact D7.set hE HRB.out hwY 3 _
      have o0:V4.ownsRow (Y+1) 59 3 (.slice p0 s0.length q0) s0.length (AH As s0):=by rw[<-hV3];exact AA k0 oM
      have o1:V4.ownsRow (Y+1) 62 2 (.slice p1 s1.length q1) s1.length (AH Ed s1):=by rw[<-hV3];exact AA k1 oM
      have o2:V4.ownsRow (Y+1) 66 5 (.slice p2 s2.length q2) s2.length (AH EP s2):=by rw[<-hV3];exact AA k2 oM
      have o3:V4.ownsRow (Y+1) 70 7 (.slice p3 s3.length q3) s3.length (AH C2 s3):=by rw[<-hV3];exact AA HW7.out oM
      have hR:=HRR.out;rw[HD7.out]at hR;try rw[hV3]
      clear hV3 D7 x7 z7 y7 f7 KN' HG HRR HD7 HYV HW7 k0 k1 k2;have b0:V4.cell? ⟨Y,0,none⟩=some (.slice p0 s0.length q0):=ry4.cell (i:=0) dE;have x0:V4.cell? ⟨X,0,none⟩=some (.slice none 0 0):=rx4.cell (i:=0) dE;have f0:=rx4.frozen 0;have b1:V4.cell? ⟨Y,1,none⟩=some (.slice p1 s1.length q1):=ry4.cell (i:=1) dE;have x1:V4.cell? ⟨X,1,none⟩=some (.slice none 0 0):=rx4.cell (i:=1) dE;have f1:=rx4.frozen 1;have b2:V4.cell? ⟨Y,2,none⟩=some (.slice p2 s2.length q2):=ry4.cell (i:=2) dE;have x2:V4.cell? ⟨X,2,none⟩=some (.slice none 0 0):=rx4.cell (i:=2) dE;have f2:=rx4.frozen 2;have b3:V4.cell? ⟨Y,3,none⟩=some (.slice p3 s3.length q3):=ry4.cell (i:=3) dE;have x3:V4.cell? ⟨X,3,none⟩=some (.slice none 0 0):=rx4.cell (i:=3) dE;have f3:=rx4.frozen 3;have HD:=A6 ((((D4.set hE HRB.out HX.out 0 (.slice p0 s0.length q0)).set hE HRB.out HX.out 1 (.slice p1 s1.length q1)).set hE HRB.out HX.out 2 (.slice p2 s2.length q2)).set hE HRB.out HX.out 3 (.slice p3 s3.length q3));obtain⟨W9,hW9⟩:∃W,(((V4.setCell ⟨X,0,none⟩ (.slice p0 s0.length q0)).setCell ⟨X,1,none⟩ (.slice p1 s1.length q1)).setCell ⟨X,2,none⟩ (.slice p2 s2.length q2)).setCell ⟨X,3,none⟩ (.slice p3 s3.length q3)=W:=⟨_,rfl⟩
      have HO9:Hid (EE w.heap.size ((((V4.setCell ⟨X,0,none⟩ (.slice p0 s0.length q0)).setCell ⟨X,1,none⟩ (.slice p1 s1.length q1)).setCell ⟨X,2,none⟩ (.slice p2 s2.length q2)).setCell ⟨X,3,none⟩ (.slice p3 s3.length q3)) (.slice p0 s0.length q0) (.slice p1 s1.length q1) (.slice p2 s2.length q2) (.slice p3 s3.length q3) ⟨s0,s1,s2,s3⟩):=⟨B3 (AA (AA (AA (AA o0 hXl) hXl) hXl) hXl) (gH hwY (Nat.le_succ _)),B3 (AA (AA (AA (AA o1 hXl) hXl) hXl) hXl) (gH hwY (Nat.le_succ _)),B3 (AA (AA (AA (AA o2 hXl) hXl) hXl) hXl) (gH hwY (Nat.le_succ _)),B3 (AA (AA (AA (AA o3 hXl) hXl) hXl) hXl) (gH hwY (Nat.le_succ _))⟩
      have HRR:Hid (R=.ok (⟨s0,s1,s2,s3⟩,(Ab s).drop A4,A4)):=hR.symm;clear hW9 D4 rx4 ry4 hR o0 o1 o2 o3;go_wp2;refine bodyPost_ret (by simp[results,results26,go_sem, *];try rfl) rfl ?_;rw[HRR.out];exact⟨p0,q0,p1,q1,p2,q2,p3,q3,rfl,HO9.out,HD.1,HD.2.1,HD.2.2,HL4.out,rfl⟩
theorem Ai{w w':World}{b n:Nat}{t:TypeId}{f:Nat->Value}{o:Obj}(h:w.rowIs b t n f)(hw:w.alloc o=w'):w'.rowIs b t n f:=by subst hw;exact h.alloc _
theorem BI{w w':World}{C:Nat}{o:Obj}(hw:w.alloc o=w')(hC:C<=w.heap.size):Below C w w':=by subst hw;exact(A7 _ _).mono hC
def g2(a b:Value)(k:Nat):Value:=if k=0 then a else b
theorem GF(w:World)(t:TypeId)(a b:Value):(w.alloc (.cells #[a,b] t)).rowIs w.heap.size t 2 (g2 a b):=
 World.rowIs_alloc w #[a,b] t _ (fun i hi=>by rcases(show i=0\/i=1 by have:i<2:=hi;omega)with rfl|rfl<;>rfl)
theorem Hp{V:World}{C:Nat}{t:TypeId}{f:Nat->Value}(rc:V.rowIs C t 2 f)(a b:Value):((V.setCell ⟨C,0,none⟩ a).setCell ⟨C,1,none⟩ b).rowIs C t 2 (g2 a b)/\AQ C V ((V.setCell ⟨C,0,none⟩ a).setCell ⟨C,1,none⟩ b):=by
 refine⟨((rc.set 0 a).set 1 b).congr fun j hj=>?_,(AQ.one C 0 V a).trans (AQ.one C 1 _ b)⟩;rcases(show j=0\/j=1 by omega)with rfl|rfl<;>rfl
theorem PE{V:World}{C:Nat}{t:TypeId}{a b:Value}(rc:V.rowIs C t 2 (g2 a b))(v:Value):(V.setCell ⟨C,1,none⟩ v).rowIs C t 2 (g2 a v)/\AQ C V (V.setCell ⟨C,1,none⟩ v):=by
 refine⟨(rc.set 1 v).congr fun j hj=>?_,AQ.one C 1 V v⟩;rcases(show j=0\/j=1 by omega)with rfl|rfl<;>rfl
theorem c2{w:World}{b:Nat}{t:TypeId}{u v:Value}(h:w.rowIs b t 2 (g2 u v)):w.cell? ⟨b,0,none⟩=some u/\w.cell? ⟨b,1,none⟩=some v:=⟨h.cell (i:=0) dE,h.cell (i:=1) dE⟩
theorem z2{w:World}{b n:Nat}{t:TypeId}{f:Nat->Value}(h:w.rowIs b t n f):w.frozen? ⟨b,0,none⟩=false/\w.frozen? ⟨b,1,none⟩=false:=⟨h.frozen 0,h.frozen 1⟩
theorem S8{s:List Nat}{A A1 A2:Nat}{e e1 e2 p p1 p2:Int}{x n:Nat}(h:Af (AO 1 3) s A e A1 e1 p p1 x)(hx:x=3)(k:Af (BJ (-1)) s A1 e1 A2 e2 p1 p2 n):Af Eg s A e A2 e2 p p2 (⟨(x:Int),(n:Int)⟩:Ty):=by
 unfold Eg;refine Af.map (g:=fun(z:Nat×Int)=>(⟨(z.1:Int),z.2⟩:Ty)) (x:=(x,(n:Int))) (h.bind ?_);refine Af.map (g:=fun(v:Int)=>(x,v)) (x:=(n:Int)) ?_;rw[show decide (x=3)=true by simp[hx]];exact Af.map (g:=fun(n:Nat)=>(n:Int)) (x:=n) k
theorem S7{s:List Nat}{A A1:Nat}{e e1 p p1:Int}{x:Nat}(h:Af (AO 1 3) s A e A1 e1 p p1 x)(hx:x≠3):Af Eg s A e A1 e1 p p1 (⟨(x:Int),0⟩:Ty):=by
 unfold Eg;refine Af.map (g:=fun(z:Nat×Int)=>(⟨(z.1:Int),z.2⟩:Ty)) (x:=(x,(0:Int))) (h.bind ?_);refine Af.map (g:=fun(v:Int)=>(x,v)) (x:=(0:Int)) ?_;rw[show decide (x=3)=false by simp[hx]];exact Af.pure _
theorem Hw(s:ByteArray)(A:Nat)(e p:Int)(w:World)(hA:e=0->A<=s.size)(hs:s.size<=281474976710656):
 Calls prog 61 #[.agg #[.string s,.int .i64 (A:Int),.int .i64 e,.int .i64 p]] w (BZ w.heap.size w s A e p Eg (fun t=>.agg #[.int .i64 t.kind,.int .i64 t.par]) (fun _=>True)):=by
 obtain⟨C,hC⟩:=gA (w.heap.size)
 obtain⟨W1,hW1⟩:∃W,w.alloc (.cells #[.string s,.int .i64 (A:Int),.int .i64 e,.int .i64 p] 78)=W:=⟨_,rfl⟩
 obtain⟨D,hD⟩:=gA (W1.heap.size)
 obtain⟨W2,hW2⟩:∃W,W1.alloc (.cells #[.string ⟨#[]⟩,.int .i64 0,.int .i64 0,.int .i64 0] 78)=W:=⟨_,rfl⟩
 have r1:W1.rowIs C 78 4 (f4 (.string s) (.int .i64 (A:Int)) (.int .i64 e) (.int .i64 p)):=by rw[<-hW1,<-hC];exact Br _ _ _ _ _ _
 have hCD:C≠D:=by have:=r1.lt;omega
 have rc:W2.rowIs C 78 4 (f4 (.string s) (.int .i64 (A:Int)) (.int .i64 e) (.int .i64 p)):=by rw[<-hW2];exact r1.alloc _
 have rd:W2.rowIs D 78 4 (f4 (.string ⟨#[]⟩) (.int .i64 0) (.int .i64 0) (.int .i64 0)):=by rw[<-hW2,<-hD];exact Br _ _ _ _ _ _
 have hb1:Below C w W1:=by rw[<-hW1,<-hC];exact A7 _ _
 have hb2:Below C w W2:=hb1.trans Qe;have hDC:C<=D:=by have:=r1.lt;omega
 obtain⟨c0,c1,c2,c3⟩:=c4 rc;obtain⟨d0,d1,d2,d3⟩:=c4 rd;obtain⟨fc0,fc1,fc2,fc3⟩:=z4 rc;obtain⟨fd0,fd1,fd2,fd3⟩:=z4 rd;obtain⟨F,hF⟩:=gA (W2.heap.size)
 obtain⟨W3,hW3⟩:∃W,W2.alloc (.cells #[.int .i64 0,.int .i64 0] 62)=W:=⟨_,rfl⟩
 have rf:W3.rowIs F 62 2 (g2 (.int .i64 0) (.int .i64 0)):=by rw[<-hW3,<-hF];exact GF _ _ _ _
 have hFD:F≠D:=by have:=rd.lt;omega
 have hFC:F≠C:=by have:=rc.lt;omega
 have HFC:Hid (C<=F):=by show C<=F;have:=rc.lt;omega
 have rc3:=Ai rc hW3;have rd3:=Ai rd hW3;have hb3:=hb2.trans (BI hW3 (Nat.le_of_lt rc.lt));have hDCn:=hCD.symm;have hDF:=hFD.symm;have hCF:=hFC.symm;have RC:=A6 rc3;have RD:=A6 rd3;have RF:=A6 rf;have HB2:=A6 hb3;have HDC:=A6 hDC;have HC:=A6 hC;have HCW:Hid (C<=W3.heap.size):=Nat.le_of_lt rc3.lt;have HA:=A6 hA;have HS:=A6 hs;have KB:Hid (∀v,Calls prog 60 #[.agg #[.string s,.int .i64 (A:Int),.int .i64 e,.int .i64 p],.int .i64 1,.int .i64 3] v (BZ v.heap.size v s A e p (AO 1 3) (fun(n:Nat)=>.int .i64 (n:Int)) (fun n=>n<=3))):=fun v=>Ep s A e p 1 3 v hA hs;unfold BZ at KB;obtain⟨a0,a1,a2,a3⟩:=c4 rc3;clear r1 rc rd hb1 hb2 hDC hA hs rc3 rd3 rf hb3 c0 c1 c2 c3 d0 d1 d2 d3 fc0 fc1 fc2 fc3 fd0 fd1 fd2 fd3;go_enter func61,ntmps61;go_upto_region 1 with fail;try rw[hC]
 try rw[hW1]
 try rw[hD]
 try rw[hW2]
 try rw[hF]
 try rw[hW3]
 clear hC hW1 hD hW2 hF hW3;go_upto_region 2 with(go_at_call 60;(with_reducible refine(KB.out _).mono ?_);rintro r9 w5 ⟨A1,e1,p1,x1,rfl,hx1,hR,hb⟩;have RC5:=A6 (RC.out.of_block (hb.block _ RC.out.lt));have RD5:=A6 (RD.out.of_block (hb.block _ RD.out.lt));have RF5:=A6 (RF.out.of_block (hb.block _ RF.out.lt));have HB5:=A6 (HB2.out.trans (hb.mono HCW.out));have HR:=A6 hR;have HX:=A6 hx1;obtain⟨m0,m1,m2,m3⟩:=c4 RC5.out;obtain⟨g0,g1,g2,g3⟩:=z4 RC5.out;clear hb hR hx1)
 have hq:=AI RC5.out (.string s) (.int .i64 (A1:Int)) (.int .i64 e1) (.int .i64 p1);obtain⟨W6,hP6⟩:∃W,(((w5.setCell ⟨C,0,none⟩ (.string s)).setCell ⟨C,1,none⟩ (.int .i64 (A1:Int))).setCell ⟨C,2,none⟩ (.int .i64 e1)).setCell ⟨C,3,none⟩ (.int .i64 p1)=W:=⟨_,rfl⟩
 rw[hP6]at hq;try rw[hP6]
 have rc6:=hq.1;have rd6:=hq.2.row RD5.out hDCn;have rf6:=hq.2.row RF5.out hFC;have hb6:=HB5.trans (hq.2.bel C (gF _));clear hq hP6 m0 m1 m2 m3 g0 g1 g2 g3 a0 a1 a2 a3 RC5 RD5 RF5 HB5;obtain⟨G,hG⟩:=gA (W6.heap.size)
 obtain⟨V6,hV6⟩:∃W,W6.alloc (.cells #[.int .i64 0,.int .i64 0] 62)=W:=⟨_,rfl⟩
 have rg6:V6.rowIs G 62 2 (g2 (.int .i64 0) (.int .i64 0)):=by rw[<-hV6,<-hG];exact GF _ _ _ _
 have hGC:G≠C:=by have:=rc6.lt;omega
 have hGD:G≠D:=by have:=rd6.lt;omega
 have hGF:G≠F:=by have:=rf6.lt;omega
 have hCG:=hGC.symm;have hDG:=hGD.symm;have hFG:=hGF.symm;have HCG:Hid (C<=G):=by show C<=G;have:=rc6.lt;omega
 obtain⟨b0,b1⟩:=c2 rg6;obtain⟨fb0,fb1⟩:=z2 rg6;have hq:=Hp rg6 (.int .i64 (x1:Int)) (.int .i64 0);obtain⟨W7,hP7⟩:∃W,(V6.setCell ⟨G,0,none⟩ (.int .i64 (x1:Int))).setCell ⟨G,1,none⟩ (.int .i64 0)=W:=⟨_,rfl⟩
 rw[hP7]at hq;have rc7:=hq.2.row (Ai rc6 hV6) hCG;have rd7:=hq.2.row (Ai rd6 hV6) hDG;have rf7:=hq.2.row (Ai rf6 hV6) hFG;have rg7:=hq.1;have hbV:=BI hV6 (Nat.le_of_lt rc6.lt);have hb7:=(hb6.trans hbV).trans (hq.2.bel C HCG.out);clear hq rc6 rd6 rf6 rg6 hb6 hbV;go_upto_region 3 with fail;try rw[hG]
 try rw[hV6]
 try rw[hP7]
 clear hG hV6 hP7 b0 b1 fb0 fb1;by_cases hx:x1=3
 .have q3:((x1:Int)==3)=true:=sO;have KN:Hid (∀v,Calls prog 59 #[.agg #[.string s,.int .i64 (A1:Int),.int .i64 e1,.int .i64 p1],.int .i64 (-1)] v (BZ v.heap.size v s A1 e1 p1 (BJ (-1)) (fun(n:Nat)=>.int .i64 (n:Int)) (fun n=>n<2^63))):=fun v=>Bt s A1 e1 p1 (-1) v (fun h0=>by have:=(HR.out.zero h0 (fun h=>by rw[Ah];exact HA.out h)).2;rw[Ah]at this;exact this) HS.out;unfold BZ at KN;have HCW7:Hid (C<=W7.heap.size):=Nat.le_of_lt rc7.lt;obtain⟨t0,t1,t2,t3⟩:=c4 rc7;obtain⟨t4,t5⟩:=c2 rg7;have RCW:=A6 rc7;have RDW:=A6 rd7;have RFW:=A6 rf7;have RGW:=A6 rg7;have HBW:=A6 hb7;have HX3:=A6 hx;clear hx rc7 rd7 rf7 rg7 hb7;go_upto_region 5 with(go_at_call 59;(with_reducible refine(KN.out _).mono ?_);rintro r9 w8 ⟨A2,e2,p2,n2,rfl,hn2,hR2,hb⟩;have RC8:=A6 (RCW.out.of_block (hb.block _ RCW.out.lt));have RD8:=A6 (RDW.out.of_block (hb.block _ RDW.out.lt));have RF8:=A6 (RFW.out.of_block (hb.block _ RFW.out.lt));have RG8:=A6 (RGW.out.of_block (hb.block _ RGW.out.lt));have HB8:=A6 (HBW.out.trans (hb.mono HCW7.out));have HR2:=A6 hR2;obtain⟨m0,m1,m2,m3⟩:=c4 RC8.out;obtain⟨y0,y1,y2,y3⟩:=z4 RC8.out;obtain⟨m4,m5⟩:=c2 RG8.out;obtain⟨y4,y5⟩:=z2 RG8.out;clear hb hR2 hn2)
  have hq:=AI RC8.out (.string s) (.int .i64 (A2:Int)) (.int .i64 e2) (.int .i64 p2);obtain⟨V8,hP8⟩:∃W,(((w8.setCell ⟨C,0,none⟩ (.string s)).setCell ⟨C,1,none⟩ (.int .i64 (A2:Int))).setCell ⟨C,2,none⟩ (.int .i64 e2)).setCell ⟨C,3,none⟩ (.int .i64 p2)=W:=⟨_,rfl⟩
  rw[hP8]at hq;try rw[hP8]
  have hq2:=PE (hq.2.row RG8.out hGC) (.int .i64 (n2:Int));obtain⟨W9,hP9⟩:∃W,V8.setCell ⟨G,1,none⟩ (.int .i64 (n2:Int))=W:=⟨_,rfl⟩
  rw[hP9]at hq2;try rw[hP9]
  have rc9:=hq2.2.row hq.1 hCG;have rd9:=hq2.2.row (hq.2.row RD8.out hDCn) hDG;have rf9:=hq2.2.row (hq.2.row RF8.out hFC) hFG;have rg9:=hq2.1;have HB9:=A6 ((HB8.trans (hq.2.bel C (gF _))).trans (hq2.2.bel C HCG.out));have HREL:=A6 (S8 HR.out HX3.out HR2.out);clear hq hq2 hP8 hP9 m0 m1 m2 m3 y0 y1 y2 y3 m4 m5 y4 y5 t0 t1 t2 t3 t4 t5;obtain⟨k0,k1,k2,k3⟩:=c4 rc9;obtain⟨j0,j1,j2,j3⟩:=c4 rd9;obtain⟨fj0,fj1,fj2,fj3⟩:=z4 rd9;obtain⟨i0,i1⟩:=c2 rf9;obtain⟨fi0,fi1⟩:=z2 rf9;obtain⟨h0,h1⟩:=c2 rg9;have hq:=AI rd9 (.string s) (.int .i64 (A2:Int)) (.int .i64 e2) (.int .i64 p2);obtain⟨W10,hPW10⟩:∃W,(((W9.setCell ⟨D,0,none⟩ (.string s)).setCell ⟨D,1,none⟩ (.int .i64 (A2:Int))).setCell ⟨D,2,none⟩ (.int .i64 e2)).setCell ⟨D,3,none⟩ (.int .i64 p2)=W:=⟨_,rfl⟩
  rw[hPW10]at hq;have rfz:=hq.2.row rf9 hFD;have hq2:=Hp rfz (.int .i64 (x1:Int)) (.int .i64 (n2:Int));obtain⟨W11,hPW11⟩:∃W,(W10.setCell ⟨F,0,none⟩ (.int .i64 (x1:Int))).setCell ⟨F,1,none⟩ (.int .i64 (n2:Int))=W:=⟨_,rfl⟩
  rw[hPW11]at hq2;obtain⟨l0,l1,l2,l3⟩:=c4 (hq2.2.row hq.1 hDF);obtain⟨o0,o1⟩:=c2 hq2.1;have HB:Hid (Below w.heap.size w W11.drew):=by show Below _ _ _;rw[HC.out];exact((HB9.trans (hq.2.bel C HDC.out)).trans (hq2.2.bel C HFC.out)).drew
  have HP10:=A6 hPW10;have HP11:=A6 hPW11;clear hq hq2 rfz hPW10 hPW11 rc9 rd9 rf9 rg9;go_wp2_with fail;refine rG (fun v=>v.cell? ⟨C,0,none⟩=some (.string s)/\v.cell? ⟨C,1,none⟩=some (.int .i64 (A2:Int))/\v.cell? ⟨C,2,none⟩=some (.int .i64 e2)/\v.cell? ⟨C,3,none⟩=some (.int .i64 p2)/\v.cell? ⟨G,0,none⟩=some (.int .i64 (x1:Int))/\v.cell? ⟨G,1,none⟩=some (.int .i64 (n2:Int))) fun hJ=>?_;refine wpAnyH_take (i:=0) (v:=?_) A8 kR kR kR A9 (Or.inl ⟨rF,?_⟩) Aa ?_
  rotate_left 1
  ·(intro wS hSw;(try dsimp only at hSw);go_simp;try(with_reducible rfl))
  try simp only[Act.put,List.setIfInBounds_toArray,List.set_cons_zero,List.set_cons_succ]
  refine wpAnyH_take (i:=1) (v:=?_) A8 kR kR kR A9 (Or.inl ⟨rF,?_⟩) Aa ?_
  rotate_left 1
  ·(intro wS hSw;(try dsimp only at hSw);go_simp;try(with_reducible rfl))
  try simp only[Act.put,List.setIfInBounds_toArray,List.set_cons_zero,List.set_cons_succ]
  clear hJ;refine AP 2 fun K hK=>?_;go_simp;refine AW hK fun hJ=>?_;clear hK K;clear hJ;refine AP 3 fun K hK=>?_;go_simp;refine AW hK fun hJ=>?_;clear hK K;refine wpAnyH_done kR ?_ _;try rw[HP10.out]
  try rw[HP11.out]
  go_wp2_with fail;try rw[HP10.out]
  try rw[HP11.out]
  clear k0 k1 k2 k3 j0 j1 j2 j3 fj0 fj1 fj2 fj3 i0 i1 fi0 fi1 h0 h1;refine bodyPost_ret (by simp[results,results61,go_sem, *];try rfl) rfl ?_;exact⟨A2,e2,p2,⟨(x1:Int),(n2:Int)⟩,rfl,trivial,HREL.out,HB.out⟩
 .have q3:((x1:Int)==3)=false:=sO;have HREL:=A6 (S7 HR.out hx);have HBW:=A6 hb7;clear hx;obtain⟨k0,k1,k2,k3⟩:=c4 rc7;obtain⟨j0,j1,j2,j3⟩:=c4 rd7;obtain⟨fj0,fj1,fj2,fj3⟩:=z4 rd7;obtain⟨i0,i1⟩:=c2 rf7;obtain⟨fi0,fi1⟩:=z2 rf7;obtain⟨h0,h1⟩:=c2 rg7;have hq:=AI rd7 (.string s) (.int .i64 (A1:Int)) (.int .i64 e1) (.int .i64 p1);obtain⟨W10,hPW10⟩:∃W,(((W7.setCell ⟨D,0,none⟩ (.string s)).setCell ⟨D,1,none⟩ (.int .i64 (A1:Int))).setCell ⟨D,2,none⟩ (.int .i64 e1)).setCell ⟨D,3,none⟩ (.int .i64 p1)=W:=⟨_,rfl⟩
  rw[hPW10]at hq;have rfz:=hq.2.row rf7 hFD;have hq2:=Hp rfz (.int .i64 (x1:Int)) (.int .i64 0);obtain⟨W11,hPW11⟩:∃W,(W10.setCell ⟨F,0,none⟩ (.int .i64 (x1:Int))).setCell ⟨F,1,none⟩ (.int .i64 0)=W:=⟨_,rfl⟩
  rw[hPW11]at hq2;obtain⟨l0,l1,l2,l3⟩:=c4 (hq2.2.row hq.1 hDF);obtain⟨o0,o1⟩:=c2 hq2.1;have HB:Hid (Below w.heap.size w W11.drew):=by show Below _ _ _;rw[HC.out];exact((HBW.trans (hq.2.bel C HDC.out)).trans (hq2.2.bel C HFC.out)).drew
  have HP10:=A6 hPW10;have HP11:=A6 hPW11;clear hq hq2 rfz hPW10 hPW11 rc7 rd7 rf7 rg7;go_wp2_with fail;refine rG (fun v=>v.cell? ⟨C,0,none⟩=some (.string s)/\v.cell? ⟨C,1,none⟩=some (.int .i64 (A1:Int))/\v.cell? ⟨C,2,none⟩=some (.int .i64 e1)/\v.cell? ⟨C,3,none⟩=some (.int .i64 p1)/\v.cell? ⟨G,0,none⟩=some (.int .i64 (x1:Int))/\v.cell? ⟨G,1,none⟩=some (.int .i64 0)) fun hJ=>?_;refine wpAnyH_take (i:=0) (v:=?_) A8 kR kR kR A9 (Or.inl ⟨rF,?_⟩) Aa ?_
  rotate_left 1
  ·(intro wS hSw;(try dsimp only at hSw);go_simp;try(with_reducible rfl))
  try simp only[Act.put,List.setIfInBounds_toArray,List.set_cons_zero,List.set_cons_succ]
  refine wpAnyH_take (i:=1) (v:=?_) A8 kR kR kR A9 (Or.inl ⟨rF,?_⟩) Aa ?_
  rotate_left 1
  ·(intro wS hSw;(try dsimp only at hSw);go_simp;try(with_reducible rfl))
  try simp only[Act.put,List.setIfInBounds_toArray,List.set_cons_zero,List.set_cons_succ]
  clear hJ;refine AP 2 fun K hK=>?_;go_simp;refine AW hK fun hJ=>?_;clear hK K;clear hJ;refine AP 3 fun K hK=>?_;go_simp;refine AW hK fun hJ=>?_;clear hK K;refine wpAnyH_done kR ?_ _;try rw[HP10.out]
  try rw[HP11.out]
  go_wp2_with fail;try rw[HP10.out]
  try rw[HP11.out]
  clear k0 k1 k2 k3 j0 j1 j2 j3 fj0 fj1 fj2 fj3 i0 i1 fi0 fi1 h0 h1;refine bodyPost_ret (by simp[results,results61,go_sem, *];try rfl) rfl ?_;exact⟨A1,e1,p1,⟨(x1:Int),0⟩,rfl,trivial,HREL.out,HB.out⟩
theorem GK(x:Value)(w:World):(Instr.typeAssert (.iface 72 x) 20 72 true).run prog w=.ok (.tuple #[x,.bool true]) w:=by
 simp[Instr.typeAssert,run_underlying underlying72,go_sem,Result.andThen]
theorem Ia(p q r:Addr)(w:World):
 CallsD prog 25 #[.pointer (some p),.pointer (some q),.pointer (some r)] .returning w fun e u' w'=>e=.returned (.tuple #[])/\u'=.returning/\w'=w:=by
 refine callsD_of_wpS func25 rfl fun c₀ cs hu=>?_;apply wpS_seq;apply wpS_region;simp[wpOpsS,go_sem,recoverD,hu,ntmps25,Exit.thenS];apply wpS_seq;apply wpS_seq;apply wpS_region;simp[wpOpsS,go_sem,Exit.thenS];refine wpS_cond (t:=true) (by simp[Act.eval,Array.replicate]) ?_;simp only[if_true];refine wpS_of_wp (wp_ret ?_);cases c₀
 simp_all [bodyPostS,results,results25,Exit.thenS]
theorem Eh(C:Nat)(er at_:Int){w V:World}{f g k:Nat->Value}(hb:Below C w V)(rc:V.rowIs C 27 4 f)(re:V.rowIs (C+1) 29 1 g)(ra:V.rowIs (C+2) 3 1 k):
 Below C w ((((((V.setCell ⟨C,0,none⟩ (.slice none 0 0)).setCell ⟨C,1,none⟩ (.slice none 0 0)).setCell ⟨C,2,none⟩ (.slice none 0 0)).setCell ⟨C,3,none⟩ (.slice none 0 0)).setCell ⟨C+1,0,none⟩ (.int .i64 er)).setCell ⟨C+2,0,none⟩ (.int .i64 at_))/\((((((V.setCell ⟨C,0,none⟩ (.slice none 0 0)).setCell ⟨C,1,none⟩ (.slice none 0 0)).setCell ⟨C,2,none⟩ (.slice none 0 0)).setCell ⟨C,3,none⟩ (.slice none 0 0)).setCell ⟨C+1,0,none⟩ (.int .i64 er)).setCell ⟨C+2,0,none⟩ (.int .i64 at_)).rowIs C 27 4 (fun _=>.slice none 0 0)/\((((((V.setCell ⟨C,0,none⟩ (.slice none 0 0)).setCell ⟨C,1,none⟩ (.slice none 0 0)).setCell ⟨C,2,none⟩ (.slice none 0 0)).setCell ⟨C,3,none⟩ (.slice none 0 0)).setCell ⟨C+1,0,none⟩ (.int .i64 er)).setCell ⟨C+2,0,none⟩ (.int .i64 at_)).rowIs (C+1) 29 1 (fun _=>.int .i64 er)/\((((((V.setCell ⟨C,0,none⟩ (.slice none 0 0)).setCell ⟨C,1,none⟩ (.slice none 0 0)).setCell ⟨C,2,none⟩ (.slice none 0 0)).setCell ⟨C,3,none⟩ (.slice none 0 0)).setCell ⟨C+1,0,none⟩ (.int .i64 er)).setCell ⟨C+2,0,none⟩ (.int .i64 at_)).rowIs (C+2) 3 1 (fun _=>.int .i64 at_):=by
 obtain⟨V1,h0⟩:∃V',V.setCell ⟨C,0,none⟩ (.slice none 0 0)=V':=⟨_,rfl⟩
 have b0:Below C w V1:=by rw[<-h0];exact hb.setCell OJ _
 have rc0:=rc.set 0 (.slice none 0 0);rw[h0]at rc0;have re0:=re.of_block (w':=V1) (by rw[<-h0];exact gE OI);have ra0:=ra.of_block (w':=V1) (by rw[<-h0];exact gE OH);rw[h0];obtain⟨V2,h1⟩:∃V',V1.setCell ⟨C,1,none⟩ (.slice none 0 0)=V':=⟨_,rfl⟩
 have b1:Below C w V2:=by rw[<-h1];exact b0.setCell OJ _
 have rc1:=rc0.set 1 (.slice none 0 0);rw[h1]at rc1;have re1:=re0.of_block (w':=V2) (by rw[<-h1];exact gE OI);have ra1:=ra0.of_block (w':=V2) (by rw[<-h1];exact gE OH);rw[h1];obtain⟨V3,h2⟩:∃V',V2.setCell ⟨C,2,none⟩ (.slice none 0 0)=V':=⟨_,rfl⟩
 have b2:Below C w V3:=by rw[<-h2];exact b1.setCell OJ _
 have rc2:=rc1.set 2 (.slice none 0 0);rw[h2]at rc2;have re2:=re1.of_block (w':=V3) (by rw[<-h2];exact gE OI);have ra2:=ra1.of_block (w':=V3) (by rw[<-h2];exact gE OH);rw[h2];obtain⟨V4,h3⟩:∃V',V3.setCell ⟨C,3,none⟩ (.slice none 0 0)=V':=⟨_,rfl⟩
 have b3:Below C w V4:=by rw[<-h3];exact b2.setCell OJ _
 have rc3:=rc2.set 3 (.slice none 0 0);rw[h3]at rc3;have re3:=re2.of_block (w':=V4) (by rw[<-h3];exact gE OI);have ra3:=ra2.of_block (w':=V4) (by rw[<-h3];exact gE OH);rw[h3];obtain⟨V5,h4⟩:∃V',V4.setCell ⟨C+1,0,none⟩ (.int .i64 er)=V':=⟨_,rfl⟩
 have b4:Below C w V5:=by rw[<-h4];exact b3.setCell (by show C<=C+1;omega) _
 have rc4:=rc3.of_block (w':=V5) T6;have re4:=re3.set 0 (.int .i64 er);rw[h4]at re4;have ra4:=ra3.of_block (w':=V5) T4;rw[h4];obtain⟨V6,h5⟩:∃V',V5.setCell ⟨C+2,0,none⟩ (.int .i64 at_)=V':=⟨_,rfl⟩
 have b5:Below C w V6:=by rw[<-h5];exact b4.setCell (by show C<=C+2;omega) _
 have rc5:=rc4.of_block (w':=V6) T5;have re5:=re4.of_block (w':=V6) T3;have ra5:=ra4.set 0 (.int .i64 at_);rw[h5]at ra5;rw[h5];refine⟨b5,rc5.congr fun j hj=>?_,re5.congr fun j hj=>?_,ra5.congr fun j hj=>?_⟩
 .exact IZ
 .have:j=0:=oM;subst this;rfl
 .have:j=0:=oM;subst this;rfl
theorem L9{C:Nat}{w V:World}{a b c:Nat->Value}(h:Below C w V/\V.rowIs C 27 4 a/\V.rowIs (C+1) 29 1 b/\V.rowIs (C+2) 3 1 c):Below C w V.drew/\V.drew.rowIs C 27 4 a/\V.drew.rowIs (C+1) 29 1 b/\V.drew.rowIs (C+2) 3 1 c:=⟨h.1.drew,h.2.1.of_block rfl,h.2.2.1.of_block rfl,h.2.2.2.of_block rfl⟩
theorem H0(C:Nat)(er:Int)(at_:Nat){w V:World}{f g k:Nat->Value}(hb:Below C w V)(rc:V.rowIs C 27 4 f)(re:V.rowIs (C+1) 29 1 g)(ra:V.rowIs (C+2) 3 1 k):
 Below C w ((((((V.setCell ⟨C,0,none⟩ (.slice none 0 0)).setCell ⟨C,1,none⟩ (.slice none 0 0)).setCell ⟨C,2,none⟩ (.slice none 0 0)).setCell ⟨C,3,none⟩ (.slice none 0 0)).setCell ⟨C+1,0,none⟩ (.int .i64 er)).setCell ⟨C+2,0,none⟩ (.int .i64 (at_:Int))).drew/\((((((V.setCell ⟨C,0,none⟩ (.slice none 0 0)).setCell ⟨C,1,none⟩ (.slice none 0 0)).setCell ⟨C,2,none⟩ (.slice none 0 0)).setCell ⟨C,3,none⟩ (.slice none 0 0)).setCell ⟨C+1,0,none⟩ (.int .i64 er)).setCell ⟨C+2,0,none⟩ (.int .i64 (at_:Int))).drew.rowIs C 27 4 (fun _=>.slice none 0 0)/\((((((V.setCell ⟨C,0,none⟩ (.slice none 0 0)).setCell ⟨C,1,none⟩ (.slice none 0 0)).setCell ⟨C,2,none⟩ (.slice none 0 0)).setCell ⟨C,3,none⟩ (.slice none 0 0)).setCell ⟨C+1,0,none⟩ (.int .i64 er)).setCell ⟨C+2,0,none⟩ (.int .i64 (at_:Int))).drew.rowIs (C+1) 29 1 (fun _=>.int .i64 er)/\((((((V.setCell ⟨C,0,none⟩ (.slice none 0 0)).setCell ⟨C,1,none⟩ (.slice none 0 0)).setCell ⟨C,2,none⟩ (.slice none 0 0)).setCell ⟨C,3,none⟩ (.slice none 0 0)).setCell ⟨C+1,0,none⟩ (.int .i64 er)).setCell ⟨C+2,0,none⟩ (.int .i64 (at_:Int))).drew.rowIs (C+2) 3 1 (fun _=>.int .i64 (at_:Int)):=
 L9 (Eh C er (at_:Int) hb rc re ra)
theorem H3(C:Nat)(er:Int)(at_:Nat)(older:List PanicEntry)(w:World)(f g k:Nat->Value)(hc:w.rowIs C 27 4 f)(he:w.rowIs (C+1) 29 1 g)(ha:w.rowIs (C+2) 3 1 k):
 CallsD prog 25 #[.pointer (some ⟨C,0,none⟩),.pointer (some ⟨C+1,0,none⟩),.pointer (some ⟨C+2,0,none⟩)] (.panicking ({v:=.iface 72 (.agg #[.int .i64 er,.int .i64 (at_:Int)]),recovered:=false}::older)) w fun e u' w'=>
  e=.returned (.tuple #[])/\u'=.panicking ({v:=.iface 72 (.agg #[.int .i64 er,.int .i64 (at_:Int)]),recovered:=true}::older)/\Below C w w'/\w'.rowIs C 27 4 (fun _=>.slice none 0 0)/\w'.rowIs (C+1) 29 1 (fun _=>.int .i64 er)/\w'.rowIs (C+2) 3 1 (fun _=>.int .i64 (at_:Int)):=by
 refine callsD_of_wpS func25 rfl fun c₀ cs hu=>?_;apply wpS_seq;apply wpS_region;simp[wpOpsS,go_sem,recoverD,hu,ntmps25,Exit.thenS];apply wpS_seq;apply wpS_seq;apply wpS_region;simp[wpOpsS,go_sem,Exit.thenS];refine wpS_cond (t:=false) (by simp[Act.eval,Array.replicate]) ?_;simp only[Bool.false_eq_true,if_false];refine wpS_of_wp (wp_skip ?_);simp only[Exit.thenS];obtain⟨G,hG⟩:=gA (w.heap.size)
 obtain⟨W,hW⟩:=gA (w.alloc (.cells #[.int .i64 er,.int .i64 (at_:Int)] 72))
 have hb:Below w.heap.size w W:=by rw[<-hW];exact A7 _ _
 have g0:W.cell? ⟨G,0,none⟩=some (.int .i64 er):=by rw[<-hW,<-hG];simp[go_sem]
 have g1:W.cell? ⟨G,1,none⟩=some (.int .i64 (at_:Int)):=by rw[<-hW,<-hG];simp[go_sem]
 have n0:¬C=G:=by have:=hc.lt;omega
 have n1:¬C+1=G:=by have:=he.lt;omega
 have n2:¬C+2=G:=by have:=ha.lt;omega
 have hbd:=hb;obtain⟨V,hV⟩:=gA W
 rw[hV]at hbd;have rc:=hc.of_block (hbd.block _ hc.lt);have re:=he.of_block (hbd.block _ he.lt);have ra:=ha.of_block (hbd.block _ ha.lt);have v0:V.cell? ⟨G,0,none⟩=some (.int .i64 er):=by rw[<-hV];exact g0
 have v1:V.cell? ⟨G,1,none⟩=some (.int .i64 (at_:Int)):=by rw[<-hV];exact g1
 have c0:V.cell? ⟨C,0,none⟩=some (f 0):=rc.cell dE;have c1:V.cell? ⟨C,1,none⟩=some (f 1):=rc.cell dE;have c2:V.cell? ⟨C,2,none⟩=some (f 2):=rc.cell dE;have c3:V.cell? ⟨C,3,none⟩=some (f 3):=rc.cell dE;have f0:=rc.frozen 0;have f1:=rc.frozen 1;have f2:=rc.frozen 2;have f3:=rc.frozen 3;have d0:V.cell? ⟨C+1,0,none⟩=some (g 0):=re.cell dE;have d1:=re.frozen 0;have a0:V.cell? ⟨C+2,0,none⟩=some (k 0):=ra.cell dE;have a1:=ra.frozen 0;have HFIN:=A6 (H0 C er at_ (hbd.mono (Nat.le_of_lt hc.lt)) rc re ra);have HU:=A6 hu;subst hV;clear hc he ha hb hbd rc re ra hu;have hta:∀ (x:Value) (w:World),(Instr.typeAssert (.iface 72 x) 20 72 true).run prog w=.ok (.tuple #[x,.bool true]) w:=fun x w=>GK x w;refine wpS_of_wp ?_;generalize hT:(#[Value.pointer (some {block:=C,off:=0}),Value.pointer (some {block:=C+1,off:=0}),Value.pointer (some {block:=C+2,off:=0})]++_:Array Value)=TT;simp only[Array.replicate,List.replicate,List.setIfInBounds_toArray,List.set_cons_zero,List.set_cons_succ,List.append_toArray,List.cons_append,List.nil_append]at hT;subst hT;go_upto_region 5 with fail;try rw[hW]
 try rw[hG]
 clear hW hG hta;refine rG (fun v=>v.cell? ⟨G,0,none⟩=some (.int .i64 er)/\v.cell? ⟨G,1,none⟩=some (.int .i64 (at_:Int))) fun hJ=>?_;refine wpAnyH_take (i:=0) (v:=?_) A8 kR kR kR A9 (Or.inl ⟨rF,?_⟩) Aa ?_
 rotate_left 1
 ·(intro wS hSw;(try dsimp only at hSw);go_simp;try(with_reducible rfl))
 try simp only[Act.put,List.setIfInBounds_toArray,List.set_cons_zero,List.set_cons_succ]
 refine wpAnyH_take (i:=1) (v:=?_) A8 kR kR kR A9 (Or.inl ⟨rF,?_⟩) Aa ?_
 rotate_left 1
 ·(intro wS hSw;(try dsimp only at hSw);go_simp;try(with_reducible rfl))
 try simp only[Act.put,List.setIfInBounds_toArray,List.set_cons_zero,List.set_cons_succ]
 refine wpAnyH_take (i:=2) (v:=?_) A8 kR kR kR A9 (Or.inl ⟨rF,?_⟩) Aa ?_
 rotate_left 1
 ·(intro wS hSw;(try dsimp only at hSw);go_simp;try(with_reducible rfl))
 try simp only[Act.put,List.setIfInBounds_toArray,List.set_cons_zero,List.set_cons_succ]
 refine wpAnyH_take (i:=3) (v:=?_) A8 kR kR kR A9 (Or.inl ⟨rF,?_⟩) Aa ?_
 rotate_left 1
 ·(intro wS hSw;(try dsimp only at hSw);go_simp;try(with_reducible rfl))
 try simp only[Act.put,List.setIfInBounds_toArray,List.set_cons_zero,List.set_cons_succ]
 refine wpAnyH_take (i:=4) (v:=?_) A8 kR kR kR A9 (Or.inl ⟨rF,?_⟩) Aa ?_
 rotate_left 1
 ·(intro wS hSw;(try dsimp only at hSw);go_simp;try(with_reducible rfl))
 try simp only[Act.put,List.setIfInBounds_toArray,List.set_cons_zero,List.set_cons_succ]
 clear hJ;refine AP 5 fun K hK=>?_;go_simp;refine AW hK fun hJ=>?_;clear hK K;clear hJ;refine AP 6 fun K hK=>?_;go_simp;refine AW hK fun hJ=>?_;clear hK K;clear hJ;refine AP 7 fun K hK=>?_;go_simp;refine AW hK fun hJ=>?_;clear hK K;refine wpAnyH_done kR ?_ _;exact⟨rfl,_,rfl,.tuple #[],by simp[results,results25],rfl,rfl,HFIN.out⟩
theorem Gq{B:Nat}{w:World}{u0 u1 u2 u3:Value}{c:Cd}(h:EE B w u0 u1 u2 u3 c):Ef w u0 u1 u2 u3 c:=⟨Fe M9 h.sign,Fe OC h.regs,Fe OB h.slots,Fe NQ h.list⟩
theorem Fv{c:Cd}(h:C9 c):BF c:=by
 obtain⟨⟨a1,a2⟩,⟨b1,b2⟩,⟨c1,c2⟩,d1,d2⟩:=h;refine⟨oM,fun p hp=>?_,oM,oM,oM,fun s hs=>?_,fun i hi=>?_⟩
 .have:=(a2 p hp).2.2.1;omega
 .have:=c2 s hs;exact⟨this.2.2.2.1,this.2.2.2.2.1⟩
 .have:=d2 i hi;obtain⟨-,-,-,-,-,-,-,z1,z2,-⟩:=this;exact⟨z1,z2⟩
theorem P4{s:ByteArray}{c:Cd}{l:List Nat}{p:Nat}(h:IA (Ab s) 0=.ok (c,l,p)):C9 c:=by
 obtain⟨u,l',p',h1,h2⟩:=Fx h;refine(Fg.bw l' p' c l p (fun b hb=>?_) h2).2.2;unfold Fz at h1;split at h1
 .cases h1
 .split at h1
  .cases h1
  .simp only[Except.ok.injEq,Prod.mk.injEq]at h1;rw[<-h1.2.1]at hb;exact BP s b (List.mem_of_mem_drop hb)
def I8(w:World)(q:Except (Int×Nat) Cd)(e:Ending)(w':World):Prop:=
 match q with
 | .error (er,at_)=>e=.returned (.tuple #[.agg #[.slice none 0 0,.slice none 0 0,.slice none 0 0,.slice none 0 0],.int .i64 er,.int .i64 (at_:Int)])/\Below w.heap.size w w'
 | .ok c=>∃p0 q0 p1 q1 p2 q2 p3 q3,e=.returned (.tuple #[.agg #[.slice p0 c.sign.length q0,.slice p1 c.regs.length q1,.slice p2 c.slots.length q2,.slice p3 c.list.length q3],.int .i64 0,.int .i64 0])/\EE w.heap.size w' (.slice p0 c.sign.length q0) (.slice p1 c.regs.length q1) (.slice p2 c.slots.length q2) (.slice p3 c.list.length q3) c/\Below w.heap.size w w'
theorem H8(C:Nat){w w4:World}(hC:w.heap.size=C)(q:Except (Int×Nat) Cd)(er:Int)(at_:Nat)(hq:q=.error (er,at_)){f g k:Nat->Value}(hb:Below C w w4)(rc:w4.rowIs C 27 4 f)(re:w4.rowIs (C+1) 29 1 g)(ra:w4.rowIs (C+2) 3 1 k)(tmps:Array Value)(t2:tmps[2]? =some (.pointer (some ⟨C,0,none⟩)))(t3:tmps[3]? =some (.pointer (some ⟨C+1,0,none⟩)))(t4:tmps[4]? =some (.pointer (some ⟨C+2,0,none⟩))):
 Leaves prog Tryz.f12 tmps (I8 w q) [{target:=.fn (.func 25) #[.pointer (some ⟨C,0,none⟩),.pointer (some ⟨C+1,0,none⟩),.pointer (some ⟨C+2,0,none⟩)],args:=#[]}] (.panicking [{v:=.iface 72 (.agg #[.int .i64 er,.int .i64 (at_:Int)]),recovered:=false}]) w4:=by
 refine leaves_cons (f:=25) (args:=#[.pointer (some ⟨C,0,none⟩),.pointer (some ⟨C+1,0,none⟩),.pointer (some ⟨C+2,0,none⟩)]) sM sG ?_;refine(H3 C er at_ [] w4 f g k rc re ra).mono ?_;rintro e u' w' ⟨rfl,rfl,h1,h2,h3,h4⟩;have c0:w'.cell? ⟨C,0,none⟩=some (.slice none 0 0):=h2.cell dE;have c1:w'.cell? ⟨C,1,none⟩=some (.slice none 0 0):=h2.cell dE;have c2:w'.cell? ⟨C,2,none⟩=some (.slice none 0 0):=h2.cell dE;have c3:w'.cell? ⟨C,3,none⟩=some (.slice none 0 0):=h2.cell dE;have d0:w'.cell? ⟨C+1,0,none⟩=some (.int .i64 er):=h3.cell dE;have a0:w'.cell? ⟨C+2,0,none⟩=some (.int .i64 (at_:Int)):=h4.cell dE;simp only[settle,List.dropWhile];refine⟨_,(by simp[results,results12,go_sem, *];try rfl),?_⟩;rw[hq];exact⟨rfl,by rw[hC];exact hb.trans h1⟩
theorem NF(C:Nat)(v0 v1 v2 v3 ve va:Value){w V:World}{f g k:Nat->Value}(hb:Below C w V)(rc:V.rowIs C 27 4 f)(re:V.rowIs (C+1) 29 1 g)(ra:V.rowIs (C+2) 3 1 k):
 Below C w ((((((V.setCell ⟨C,0,none⟩ v0).setCell ⟨C,1,none⟩ v1).setCell ⟨C,2,none⟩ v2).setCell ⟨C,3,none⟩ v3).setCell ⟨C+1,0,none⟩ ve).setCell ⟨C+2,0,none⟩ va)/\((((((V.setCell ⟨C,0,none⟩ v0).setCell ⟨C,1,none⟩ v1).setCell ⟨C,2,none⟩ v2).setCell ⟨C,3,none⟩ v3).setCell ⟨C+1,0,none⟩ ve).setCell ⟨C+2,0,none⟩ va).rowIs C 27 4 (f4 v0 v1 v2 v3)/\((((((V.setCell ⟨C,0,none⟩ v0).setCell ⟨C,1,none⟩ v1).setCell ⟨C,2,none⟩ v2).setCell ⟨C,3,none⟩ v3).setCell ⟨C+1,0,none⟩ ve).setCell ⟨C+2,0,none⟩ va).rowIs (C+1) 29 1 (fun _=>ve)/\((((((V.setCell ⟨C,0,none⟩ v0).setCell ⟨C,1,none⟩ v1).setCell ⟨C,2,none⟩ v2).setCell ⟨C,3,none⟩ v3).setCell ⟨C+1,0,none⟩ ve).setCell ⟨C+2,0,none⟩ va).rowIs (C+2) 3 1 (fun _=>va)/\(∀b,C+3<=b->((((((V.setCell ⟨C,0,none⟩ v0).setCell ⟨C,1,none⟩ v1).setCell ⟨C,2,none⟩ v2).setCell ⟨C,3,none⟩ v3).setCell ⟨C+1,0,none⟩ ve).setCell ⟨C+2,0,none⟩ va).heap[b]? =V.heap[b]?):=by
 obtain⟨V1,h0⟩:∃V',V.setCell ⟨C,0,none⟩ v0=V':=⟨_,rfl⟩
 have b0:Below C w V1:=by rw[<-h0];exact hb.setCell OJ _
 have k0:∀b,C+3<=b->V1.heap[b]? =V.heap[b]? :=fun b h=>by rw[<-h0,gE Rg]
 have rc0:=rc.set 0 v0;rw[h0]at rc0;have re0:=re.of_block (w':=V1) (by rw[<-h0];exact gE OI);have ra0:=ra.of_block (w':=V1) (by rw[<-h0];exact gE OH);rw[h0];obtain⟨V2,h1⟩:∃V',V1.setCell ⟨C,1,none⟩ v1=V':=⟨_,rfl⟩
 have b1:Below C w V2:=by rw[<-h1];exact b0.setCell OJ _
 have k1:∀b,C+3<=b->V2.heap[b]? =V.heap[b]? :=fun b h=>by rw[<-h1,gE Rg];exact k0 b h
 have rc1:=rc0.set 1 v1;rw[h1]at rc1;have re1:=re0.of_block (w':=V2) (by rw[<-h1];exact gE OI);have ra1:=ra0.of_block (w':=V2) (by rw[<-h1];exact gE OH);rw[h1];obtain⟨V3,h2⟩:∃V',V2.setCell ⟨C,2,none⟩ v2=V':=⟨_,rfl⟩
 have b2:Below C w V3:=by rw[<-h2];exact b1.setCell OJ _
 have k2:∀b,C+3<=b->V3.heap[b]? =V.heap[b]? :=fun b h=>by rw[<-h2,gE Rg];exact k1 b h
 have rc2:=rc1.set 2 v2;rw[h2]at rc2;have re2:=re1.of_block (w':=V3) (by rw[<-h2];exact gE OI);have ra2:=ra1.of_block (w':=V3) (by rw[<-h2];exact gE OH);rw[h2];obtain⟨V4,h3⟩:∃V',V3.setCell ⟨C,3,none⟩ v3=V':=⟨_,rfl⟩
 have b3:Below C w V4:=by rw[<-h3];exact b2.setCell OJ _
 have k3:∀b,C+3<=b->V4.heap[b]? =V.heap[b]? :=fun b h=>by rw[<-h3,gE Rg];exact k2 b h
 have rc3:=rc2.set 3 v3;rw[h3]at rc3;have re3:=re2.of_block (w':=V4) (by rw[<-h3];exact gE OI);have ra3:=ra2.of_block (w':=V4) (by rw[<-h3];exact gE OH);rw[h3];obtain⟨V5,h4⟩:∃V',V4.setCell ⟨C+1,0,none⟩ ve=V':=⟨_,rfl⟩
 have b4:Below C w V5:=by rw[<-h4];exact b3.setCell (by show C<=C+1;omega) _
 have k4:∀b,C+3<=b->V5.heap[b]? =V.heap[b]? :=fun b h=>by rw[<-h4,gE (by show b≠C+1;omega)];exact k3 b h
 have rc4:=rc3.of_block (w':=V5) T6;have re4:=re3.set 0 ve;rw[h4]at re4;have ra4:=ra3.of_block (w':=V5) T4;rw[h4];obtain⟨V6,h5⟩:∃V',V5.setCell ⟨C+2,0,none⟩ va=V':=⟨_,rfl⟩
 have b5:Below C w V6:=by rw[<-h5];exact b4.setCell (by show C<=C+2;omega) _
 have k5:∀b,C+3<=b->V6.heap[b]? =V.heap[b]? :=fun b h=>by rw[<-h5,gE (by show b≠C+2;omega)];exact k4 b h
 have rc5:=rc4.of_block (w':=V6) T5;have re5:=re4.of_block (w':=V6) T3;have ra5:=ra4.set 0 va;rw[h5]at ra5;rw[h5];refine⟨b5,rc5.congr fun j hj=>?_,re5.congr fun j hj=>?_,ra5.congr fun j hj=>?_,k5⟩
 .exact IZ
 .have:j=0:=oM;subst this;rfl
 .have:j=0:=oM;subst this;rfl
theorem O9{C:Nat}{w u:World}{v0 v1 v2 v3:Value}{c:Cd}(h:EE (C+4) w v0 v1 v2 v3 c)(k:∀b,C+3<=b->u.heap[b]? =w.heap[b]?):EE C u v0 v1 v2 v3 c:=by
 have kp:∀ {t:TypeId} {k n:Nat} {v:Value} {xs:List Value},w.ownsRow (C+4) t k v n xs->u.ownsRow C t k v n xs:=fun h=>B3 (Ae h fun b hb=>k b RZ) oM;exact⟨kp h.sign,kp h.regs,kp h.slots,kp h.list⟩
theorem J4(C:Nat){w4:World}(R:Ending->World->Prop){p0 p1 p2 p3:Option Addr}{n0 n1 n2 n3 q0 q1 q2 q3:Nat}{er at_:Int}(rc:w4.rowIs C 27 4 (f4 (.slice p0 n0 q0) (.slice p1 n1 q1) (.slice p2 n2 q2) (.slice p3 n3 q3)))(re:w4.rowIs (C+1) 29 1 (fun _=>.int .i64 er))(ra:w4.rowIs (C+2) 3 1 (fun _=>.int .i64 at_))(hR:R (.returned (.tuple #[.agg #[.slice p0 n0 q0,.slice p1 n1 q1,.slice p2 n2 q2,.slice p3 n3 q3],.int .i64 er,.int .i64 at_])) w4)(tmps:Array Value)(t2:tmps[2]? =some (.pointer (some ⟨C,0,none⟩)))(t3:tmps[3]? =some (.pointer (some ⟨C+1,0,none⟩)))(t4:tmps[4]? =some (.pointer (some ⟨C+2,0,none⟩))):
 Leaves prog Tryz.f12 tmps R [{target:=.fn (.func 25) #[.pointer (some ⟨C,0,none⟩),.pointer (some ⟨C+1,0,none⟩),.pointer (some ⟨C+2,0,none⟩)],args:=#[]}] .returning w4:=by
 refine leaves_cons (f:=25) (args:=#[.pointer (some ⟨C,0,none⟩),.pointer (some ⟨C+1,0,none⟩),.pointer (some ⟨C+2,0,none⟩)]) sM sG ?_;refine(Ia ⟨C,0,none⟩ ⟨C+1,0,none⟩ ⟨C+2,0,none⟩ w4).mono ?_;rintro e u' w' ⟨rfl,rfl,rfl⟩;have c0:w'.cell? ⟨C,0,none⟩=some (.slice p0 n0 q0):=rc.cell (i:=0) dE;have c1:w'.cell? ⟨C,1,none⟩=some (.slice p1 n1 q1):=rc.cell (i:=1) dE;have c2:w'.cell? ⟨C,2,none⟩=some (.slice p2 n2 q2):=rc.cell (i:=2) dE;have c3:w'.cell? ⟨C,3,none⟩=some (.slice p3 n3 q3):=rc.cell (i:=3) dE;have d0:w'.cell? ⟨C+1,0,none⟩=some (.int .i64 er):=re.cell dE;have a0:w'.cell? ⟨C+2,0,none⟩=some (.int .i64 at_):=ra.cell dE;simp only[settle];exact⟨_,(by simp[results,results12,go_sem,c0,c1,c2,c3,d0,a0,t2,t3,t4];try rfl),hR⟩
theorem E3(s:ByteArray)(hs:s.size<=281474976710656)(w:World):
 Calls prog 12 #[.string s] w (I8 w (C8 (Ab s))):=by
 have hmf:∀ (fn:Fn) (first cap:Array Value) (w:World),(Instr.makeFunc fn first cap).run prog w=.ok (.func fn first cap) w:=fun _ _ _ _=>rfl;obtain⟨C,hC⟩:=gA (w.heap.size)
 obtain⟨W0,hW0⟩:∃W,((w.alloc (.cells #[.slice none 0 0,.slice none 0 0,.slice none 0 0,.slice none 0 0] 27)).alloc (.cells #[.int .i64 0] 29)).alloc (.cells #[.int .i64 0] 3)=W:=⟨_,rfl⟩
 obtain⟨W1,hW1⟩:∃W,W0.alloc (.cells #[.string s,.int .i64 0] 75)=W:=⟨_,rfl⟩
 have s0:W0.heap.size=C+3:=by rw[<-hW0,<-hC];simp
 have bW0:Below C w W0:=by
  rw[<-hC,<-hW0];exact bel (bel (A7 _ _) (A7 _ _)) (A7 _ _)
 have bW1:Below W0.heap.size W0 W1:=by rw[<-hW1];exact A7 _ _
 have r1:(w.alloc (.cells #[.slice none 0 0,.slice none 0 0,.slice none 0 0,.slice none 0 0] 27)).rowIs C 27 4 (fun _=>.slice none 0 0):=by
  rw[<-hC];exact SE
 have one:∀ (u:World) (v:Value) (t:TypeId),(u.alloc (.cells #[v] t)).rowIs u.heap.size t 1 (fun _=>v):=fun u v t=>World.rowIs_alloc u #[v] t _ (fun i hi=>by
  have:i=0:=by have:i<1:=hi;omega
  subst this
  rfl)
 have rc0:W0.rowIs C 27 4 (fun _=>.slice none 0 0):=by rw[<-hW0];exact(r1.alloc _).alloc _
 have re0:W0.rowIs (C+1) 29 1 (fun _=>.int .i64 0):=by
  rw[<-hW0];have h9:=one (w.alloc (.cells #[.slice none 0 0,.slice none 0 0,.slice none 0 0,.slice none 0 0] 27)) (.int .i64 0) 29;rw[show(w.alloc (.cells #[.slice none 0 0,.slice none 0 0,.slice none 0 0,.slice none 0 0] 27)).heap.size=C+1 by rw[<-hC];simp]at h9;exact h9.alloc _
 have ra0:W0.rowIs (C+2) 3 1 (fun _=>.int .i64 0):=by
  rw[<-hW0];have h9:=one ((w.alloc (.cells #[.slice none 0 0,.slice none 0 0,.slice none 0 0,.slice none 0 0] 27)).alloc (.cells #[.int .i64 0] 29)) (.int .i64 0) 3;rw[show((w.alloc (.cells #[.slice none 0 0,.slice none 0 0,.slice none 0 0,.slice none 0 0] 27)).alloc (.cells #[.int .i64 0] 29)).heap.size=C+2 by rw[<-hC];simp]at h9;exact h9
 have rr:W1.rowIs (C+3) 75 2 (fun k=>if k=0 then .string s else .int .i64 ((0:Nat):Int)):=by
  rw[<-hW1,<-s0];exact World.rowIs_alloc W0 #[.string s,.int .i64 0] 75 _ (fun i hi=>by
   rcases(show i=0\/i=1 by have:i<2:=hi;omega)with rfl|rfl<;>rfl)
 have rc1:=rc0.of_block (bW1.block _ rc0.lt);have re1:=re0.of_block (bW1.block _ re0.lt);have ra1:=ra0.of_block (bW1.block _ ra0.lt);have b1:Below C w W1:=bW0.trans (bW1.mono oM);have hm1:BB (C+3) (C+3) s 0 W1:=⟨rr,gF _⟩
 have KC:=KG (C+3) (C+3) s W1 hm1 hs (by have:=rr.lt;omega);obtain⟨R,hR⟩:=gA (C8 (Ab s))
 rw[hR];rw[NJ]at hR;have HC:=A6 hC;have HB1:=A6 b1;have HRC:=A6 rc1;have HRE:=A6 re1;have HRA:=A6 ra1;have HS0:=A6 s0;have HKEEP:Hid (∀u,Below (C+3) W1 u->Below C w u/\u.rowIs (C+1) 29 1 (fun _=>.int .i64 0)/\u.rowIs (C+2) 3 1 (fun _=>.int .i64 0)/\u.rowIs C 27 4 (fun _=>.slice none 0 0)):=fun u hu=>⟨b1.trans (hu.mono oM),re1.of_block (hu.block _ oM),ra1.of_block (hu.block _ oM),rc1.of_block (hu.block _ oM)⟩
 have HW1:=A6 hW1;clear one r1 rc0 re0 ra0 rr bW0 bW1 b1 rc1 re1 ra1 hm1 hW1;cases hq:IA (Ab s) 0 with
 |error er=>
  obtain⟨er,at_⟩:=er;rw[An hq]at hR;simp only at hR;rw[hq]at KC;have KC':=A6 KC;unfold Ns B2 at KC';simp only at KC';have HRR:=A6 hR.symm;clear KC hq hR
  go_enter_defers func12,ntmps12
  go_upto_region 2 with fail;try rw[hW0]
  try rw[hC]
  go_upto_region 3 with fail;rw[HW1.out];try rw[s0]
  rw[show C+1+1=C+2 from rfl];clear hW0 hC s0;go_wp2_with(go_at_call 26;(with_reducible refine KC'.out.mono ?_);rintro e9 w4 ⟨rfl,hb4,ho4⟩;have HB4:=A6 hb4;clear hb4 ho4);obtain⟨k1,k2,k3,k4⟩:=HKEEP.out w4 HB4.out;exact H8 C HC.out R er at_ HRR.out k1 k4 k2 k3 _ rfl rfl rfl
 |ok r=>
  obtain⟨c,l,A⟩:=r;have HOK:=A6 (P4 hq);rw[Au hq]at hR;rw[hq]at KC;have KC':=A6 KC;unfold Ns at KC';simp only at KC';have HRR:=A6 hR;have HSW:Hid (C+4<=W1.heap.size):=by
   show _<=_;rw[<-HW1.out];simp[s0]
  clear KC hq hR
  go_enter_defers func12,ntmps12
  go_upto_region 2 with fail;try rw[hW0]
  try rw[hC]
  go_upto_region 3 with fail;rw[HW1.out];try rw[s0]
  rw[show C+1+1=C+2 from rfl];clear hW0 hC s0;go_upto_region 4 with(go_at_call 26;(with_reducible refine KC'.out.mono ?_);rintro e9 w4 ⟨p0,q0,p1,q1,p2,q2,p3,q3,rfl,hw4,hb4,ho4,hm4,hl4,hd4⟩;obtain⟨k1,k2,k3,k4⟩:=HKEEP.out w4 hb4;have HK:=A6 (And.intro k1 (And.intro k2 (And.intro k3 k4)));have HW4:=A6 hw4;have HM4:=A6 hm4;have HL4:=A6 hl4;have HD4:=A6 hd4;have HS4:=A6 ho4.1;have y0:w4.cell? ⟨C,0,none⟩=some (.slice none 0 0):=k4.cell dE;have y1:w4.cell? ⟨C,1,none⟩=some (.slice none 0 0):=k4.cell dE;have y2:w4.cell? ⟨C,2,none⟩=some (.slice none 0 0):=k4.cell dE;have y3:w4.cell? ⟨C,3,none⟩=some (.slice none 0 0):=k4.cell dE;have f0:=k4.frozen 0;have f1:=k4.frozen 1;have f2:=k4.frozen 2;have f3:=k4.frozen 3;clear k1 k2 k3 k4 hw4 hb4 ho4 hm4 hl4 hd4)
  obtain⟨V2,hV2⟩:∃V,(((w4.setCell ⟨C,0,none⟩ (.slice p0 c.sign.length q0)).setCell ⟨C,1,none⟩ (.slice p1 c.regs.length q1)).setCell ⟨C,2,none⟩ (.slice p2 c.slots.length q2)).setCell ⟨C,3,none⟩ (.slice p3 c.list.length q3)=V:=⟨_,rfl⟩
  have hbl:∀b,b≠C->V2.heap[b]? =w4.heap[b]? :=fun b hb=>by
   rw[<-hV2,gE hb,gE hb,gE hb,gE hb]
  obtain⟨k1,k2,k3,k4⟩:=HK.out;have re2:=k2.of_block (hbl (C+1) oM);have ra2:=k3.of_block (hbl (C+2) oM);have rc2:V2.rowIs C 27 4 (f4 (.slice p0 c.sign.length q0) (.slice p1 c.regs.length q1) (.slice p2 c.slots.length q2) (.slice p3 c.list.length q3)):=by
   rw[<-hV2];exact((((k4.set 0 (.slice p0 c.sign.length q0)).set 1 (.slice p1 c.regs.length q1)).set 2 (.slice p2 c.slots.length q2)).set 3 (.slice p3 c.list.length q3)).congr fun j hj=>by
    exact IZ
  have hm2:BB (C+3) (C+3) s A V2:=⟨HM4.b.of_block (hbl (C+3) oM),gF _⟩
  have bb2:Below C w V2:=by rw[<-hV2];exact(((k1.setCell (gF _) _).setCell (gF _) _).setCell (gF _) _).setCell (gF _) _
  have hS:=HSW.out;have ow2:EE (C+4) V2 (.slice p0 c.sign.length q0) (.slice p1 c.regs.length q1) (.slice p2 c.slots.length q2) (.slice p3 c.list.length q3) c:=by
   have hw:=HW4.out;have kp:∀ {t:TypeId} {k n:Nat} {u:Value} {xs:List Value},w4.ownsRow W1.heap.size t k u n xs->V2.ownsRow (C+4) t k u n xs:=fun h=>B3 (Ae h fun b hb=>hbl b RZ) hS;exact⟨kp hw.sign,kp hw.regs,kp hw.slots,kp hw.list⟩
  have KE:=Mg (C+3) (C+3) s A V2 hm2 HL4.out hs (by have:=hm2.b.lt;omega);have hR:=HRR.out;rw[HD4.out]at hR;rw[hV2];have HR2:=A6 (And.intro bb2 (And.intro rc2 (And.intro re2 (And.intro ra2 ow2))));clear y0 y1 y2 y3 f0 f1 f2 f3 hV2 hbl k1 k2 k3 k4 re2 ra2 rc2 hm2 bb2 ow2 HW4 HM4 HL4 HD4 HS4 HK HRR KC' HKEEP HRC HRE HRA HB1 hS;cases hq2:Ku (Ab s) ((Ab s).drop A) A with
  |error er=>
   obtain⟨er,at_⟩:=er;rw[An hq2]at hR;simp only at hR;rw[hq2]at KE;have KE':=A6 KE;unfold AX B2 at KE';simp only at KE';have HRR:=A6 hR.symm;clear KE hq2 hR;go_wp2_with(go_at_call 27;(with_reducible refine KE'.out.mono ?_);rintro e9 w5 ⟨rfl,hb5,ho5⟩;have HB5:=A6 hb5;clear hb5 ho5);obtain⟨k1,k2,k3,k4,-⟩:=HR2.out;have h5:=HB5.out;exact H8 C HC.out R er at_ HRR.out (k1.trans (h5.mono oM)) (k2.of_block (h5.block _ oM)) (k3.of_block (h5.block _ oM)) (k4.of_block (h5.block _ oM)) _ rfl rfl rfl
  |ok r2=>
   obtain⟨u9,l2,A2⟩:=r2;rw[Au hq2]at hR;unfold Ax at hR;simp only at hR;rw[hq2]at KE;have KE':=A6 KE;unfold AX at KE';simp only at KE';have HRR:=A6 hR;clear KE hq2 hR;go_upto_region 5 with(go_at_call 27;(with_reducible refine KE'.out.mono ?_);rintro e9 w5 ⟨rfl,hb5,ho5,hm5,hl5,hd5⟩;have HB5:=A6 hb5;have HO5:=A6 ho5;clear hb5 ho5 hm5 hl5 hd5)
   obtain⟨k1,k2,k3,k4,k5⟩:=HR2.out;have h5:=HB5.out;have b5:=k1.trans (h5.mono (show C<=C+3 by omega));have rc5:=k2.of_block (h5.block _ (show C<C+3 by omega));have re5:=k3.of_block (h5.block _ (show C+1<C+3 by omega));have ra5:=k4.of_block (h5.block _ (show C+2<C+3 by omega));have hr4:C+3<C+4:=oM;have ow5:EE (C+4) w5 (.slice p0 c.sign.length q0) (.slice p1 c.regs.length q1) (.slice p2 c.slots.length q2) (.slice p3 c.list.length q3) c:=⟨Cc k5.sign hr4 HO5.out,Cc k5.regs hr4 HO5.out,Cc k5.slots hr4 HO5.out,Cc k5.list hr4 HO5.out⟩
   have KH:=A6 (G6 _ _ _ _ c (Fv HOK.out) w5 (Gq ow5));have z0:w5.cell? ⟨C,0,none⟩=some (.slice p0 c.sign.length q0):=rc5.cell (i:=0) dE;have z1:w5.cell? ⟨C,1,none⟩=some (.slice p1 c.regs.length q1):=rc5.cell (i:=1) dE;have z2:w5.cell? ⟨C,2,none⟩=some (.slice p2 c.slots.length q2):=rc5.cell (i:=2) dE;have z3:w5.cell? ⟨C,3,none⟩=some (.slice p3 c.list.length q3):=rc5.cell (i:=3) dE;have HKP:Hid (∀u,Below w5.heap.size w5 u->Below C w u/\u.rowIs C 27 4 (f4 (.slice p0 c.sign.length q0) (.slice p1 c.regs.length q1) (.slice p2 c.slots.length q2) (.slice p3 c.list.length q3))/\u.rowIs (C+1) 29 1 (fun _=>.int .i64 0)/\u.rowIs (C+2) 3 1 (fun _=>.int .i64 0)/\EE (C+4) u (.slice p0 c.sign.length q0) (.slice p1 c.regs.length q1) (.slice p2 c.slots.length q2) (.slice p3 c.list.length q3) c):=fun u hu=>by
    have hc5:=rc5.lt;have kp:∀ {t:TypeId} {k n:Nat} {v:Value} {xs:List Value},w5.ownsRow (C+4) t k v n xs->u.ownsRow (C+4) t k v n xs:=fun h=>Ae h fun b hb=>hu.block b (h.lt b hb).2;exact⟨b5.trans (hu.mono oM),rc5.of_block (hu.block _ rc5.lt),re5.of_block (hu.block _ re5.lt),ra5.of_block (hu.block _ ra5.lt),⟨kp ow5.sign,kp ow5.regs,kp ow5.slots,kp ow5.list⟩⟩
   obtain⟨e1,he1⟩:∃e,(AE c).1=e:=⟨_,rfl⟩
   obtain⟨e2,he2⟩:∃e,(AE c).2=e:=⟨_,rfl⟩
   rw[he1,he2]at KH;rw[he1]at HRR;clear k1 k2 k3 k4 k5 h5 b5 rc5 re5 ra5 ow5 he1 he2 HB5 HO5 KE' HR2;by_cases hc:e1=0
   .subst hc;have HRE:Hid (R=.ok c):=by show R=_;rw[<-HRR.out];simp
    clear HRR;go_upto_region 8 with(go_at_call 16;(with_reducible refine KH.out.mono ?_);rintro e9 w6 ⟨rfl,hb6⟩;have HB6:=A6 hb6;clear hb6)
    obtain⟨j1,j2,j3,j4,j5⟩:=HKP.out w6 HB6.out;have y0:w6.cell? ⟨C,0,none⟩=some (.slice p0 c.sign.length q0):=j2.cell (i:=0) dE;have y1:w6.cell? ⟨C,1,none⟩=some (.slice p1 c.regs.length q1):=j2.cell (i:=1) dE;have y2:w6.cell? ⟨C,2,none⟩=some (.slice p2 c.slots.length q2):=j2.cell (i:=2) dE;have y3:w6.cell? ⟨C,3,none⟩=some (.slice p3 c.list.length q3):=j2.cell (i:=3) dE;have f0:=j2.frozen 0;have f1:=j2.frozen 1;have f2:=j2.frozen 2;have f3:=j2.frozen 3;have d0:w6.cell? ⟨C+1,0,none⟩=some (.int .i64 0):=j3.cell dE;have d1:=j3.frozen 0;have a0:w6.cell? ⟨C+2,0,none⟩=some (.int .i64 0):=j4.cell dE;have a1:=j4.frozen 0;have HCC:=A6 (NF C (.slice p0 c.sign.length q0) (.slice p1 c.regs.length q1) (.slice p2 c.slots.length q2) (.slice p3 c.list.length q3) (.int .i64 0) (.int .i64 0) j1 j2 j3 j4);have HJ5:=A6 j5;clear z0 z1 z2 z3 j1 j2 j3 j4 j5;go_wp2;obtain⟨m1,m2,m3,m4,m5⟩:=HCC.out;refine J4 C (I8 w R) m2 m3 m4 ?_ _ rfl rfl rfl;rw[HRE.out];have hw:=HJ5.out;refine⟨p0,q0,p1,q1,p2,q2,p3,q3,rfl,?_,by rw[HC.out];exact m1⟩;rw[HC.out];clear m1 m2 m3 m4;exact O9 hw m5
   .have q1':(e1==0)=false:=by simpa using hc
    have q2':(e1 != 0)=true:=by simpa using hc
    have HRE:Hid (R=.error (e1,0)):=by show R=_;rw[<-HRR.out,if_pos hc]
    clear HRR;go_upto_region 7 with(go_at_call 16;(with_reducible refine KH.out.mono ?_);rintro e9 w6 ⟨rfl,hb6⟩;have HB6:=A6 hb6;clear hb6)
    obtain⟨j1,j2,j3,j4,j5⟩:=HKP.out w6 HB6.out;have y0:w6.cell? ⟨C,0,none⟩=some (.slice p0 c.sign.length q0):=j2.cell (i:=0) dE;have y1:w6.cell? ⟨C,1,none⟩=some (.slice p1 c.regs.length q1):=j2.cell (i:=1) dE;have y2:w6.cell? ⟨C,2,none⟩=some (.slice p2 c.slots.length q2):=j2.cell (i:=2) dE;have y3:w6.cell? ⟨C,3,none⟩=some (.slice p3 c.list.length q3):=j2.cell (i:=3) dE;have f0:=j2.frozen 0;have f1:=j2.frozen 1;have f2:=j2.frozen 2;have f3:=j2.frozen 3;have d0:w6.cell? ⟨C+1,0,none⟩=some (.int .i64 0):=j3.cell dE;have d1:=j3.frozen 0;have a0:w6.cell? ⟨C+2,0,none⟩=some (.int .i64 0):=j4.cell dE;have a1:=j4.frozen 0;have HCC:=A6 (Eh C e1 0 j1 j2 j3 j4);clear z0 z1 z2 z3;go_wp2;obtain⟨m1,m2,m3,m4⟩:=HCC.out;have m2':=m2.congr (g:=f4 (.slice none 0 0) (.slice none 0 0) (.slice none 0 0) (.slice none 0 0)) (fun j hj=>by
     rcases(show j=0\/j=1\/j=2\/j=3 by omega)with rfl|rfl|rfl|rfl<;>rfl)
    refine J4 C (I8 w R) m2' m3 m4 ?_ _ rfl rfl rfl;rw[HRE.out];exact⟨rfl,by rw[HC.out];exact m1⟩
def Kb:Cd:=⟨[],[],[],[]⟩
theorem E1:C9 Kb:=⟨⟨dE,fun _ h=>by cases h⟩,⟨dE,fun _ h=>by cases h⟩,⟨dE,fun _ h=>by cases h⟩,dE,fun _ h=>by cases h⟩
theorem G5:(AE Kb).1=0:=by decide+kernel
theorem LA(w:World):Ef w (.slice none 0 0) (.slice none 0 0) (.slice none 0 0) (.slice none 0 0) Kb:=⟨⟨none,0,rfl,.inl rfl⟩,⟨none,0,rfl,.inl rfl⟩,⟨none,0,rfl,.inl rfl⟩,⟨none,0,rfl,.inl rfl⟩⟩
theorem NN{c:Cd}:(BS c).length=(C1 c).length+12:=by
 unfold BS B6;simp only[List.length_append,AZ];show 4+(C1 c).length+8=_;omega
theorem OL:C1 Kb=[0,0,0,0]:=by
 show(Az 0++[])++((Az 0++[])++((Az 0++[])++(Az 0++[])))=_;rw[Cg dE];rfl
theorem Qi:∃T:ByteArray,F5 (BS Kb)=T/\T.size=16/\T.extract 0 8=⟨#[108,116,104,49,0,0,0,0]⟩/\C8 (Ab T)=.ok Kb:=by
 refine⟨_,rfl,by rw[Cv,NN,OL];rfl,?_,by rw[CM (LG E1),Pb E1 G5]⟩;apply GZ;have h9:=BK (F5 (BS Kb)) 0 8;rw[Nat.zero_add,List.drop_zero,CM (LG E1)]at h9;rw[h9];unfold BS B6;rw[OL,List.take_append_of_le_length dE];rfl
theorem S2:C8 (Ab ⟨#[108,116,104,49,0,0]⟩)=.error (242,6):=rF
theorem PD:EV (Ab ⟨#[49,50,51,52,53,54,55,56,57]⟩)=11051210869376104954:=by decide+kernel
theorem I3(w:World):
 Calls prog 11 #[] w fun e w'=>e=.returned (.bool true)/\Below w.heap.size w w':=by
 obtain⟨T,hT,hTs,hT8,hTd⟩:=Qi;have KE:=Hb (.slice none 0 0) (.slice none 0 0) (.slice none 0 0) (.slice none 0 0) Kb (Fv E1) w (LA w) G5;rw[hT]at KE;have KE':=A6 KE;have KD:=A6 (fun v=>E3 T oM v);rw[hTd]at KD;have KC:=A6 (fun v=>E3 ⟨#[108,116,104,49,0,0]⟩ dE v);rw[S2]at KC;unfold I8 at KD KC;simp only[Kb,List.length_nil]at KD KC;have KP:=A6 (fun v=>E2 ⟨#[49,50,51,52,53,54,55,56,57]⟩ dE v);rw[PD]at KP;have KQ:=A6 (fun(v:World) (a0 a1 a2 a3:Value) (ha:Ef v a0 a1 a2 a3 Kb)=>FD a0 a1 a2 a3 (.slice none 0 0) (.slice none 0 0) (.slice none 0 0) (.slice none 0 0) Kb Kb (Fv E1) (Fv E1) v ha (LA v));rw[Hc]at KQ;have i1:(0:Int)<=8:=dE;clear KE hT hTd;go_enter func11,ntmps11;go_upto_region 2 with(go_at_call 8;(with_reducible refine KE'.out.mono ?_);rintro e9 w4 ⟨rfl,hb4⟩;have HB4:=A6 hb4;clear hb4)
 go_upto_region 3 with(go_at_call 12;(with_reducible refine(KD.out _).mono ?_);rintro e9 w5 ⟨p0,q0,p1,q1,p2,q2,p3,q3,rfl,ho5,hb5⟩;have HO5:=A6 ho5;have HB5:=A6 hb5;clear ho5 hb5)
 obtain⟨X,hX⟩:=gA (w5.heap.size)
 obtain⟨V,hV⟩:=gA (w5.alloc (.cells #[.slice p0 0 q0,.slice p1 0 q1,.slice p2 0 q2,.slice p3 0 q3] 27))
 have hbV:Below w5.heap.size w5 V:=by rw[<-hV];exact A7 _ _
 have x0:V.cell? ⟨X,0,none⟩=some (.slice p0 0 q0):=by rw[<-hV,<-hX];simp[go_sem]
 have x1:V.cell? ⟨X,1,none⟩=some (.slice p1 0 q1):=by rw[<-hV,<-hX];simp[go_sem]
 have x2:V.cell? ⟨X,2,none⟩=some (.slice p2 0 q2):=by rw[<-hV,<-hX];simp[go_sem]
 have x3:V.cell? ⟨X,3,none⟩=some (.slice p3 0 q3):=by rw[<-hV,<-hX];simp[go_sem]
 have HX:=A6 (And.intro x0 (And.intro x1 (And.intro x2 x3)));have HBV:Hid (Below w.heap.size w V):=bel (bel HB4.out HB5.out) hbV;have HCV:=A6 ((Gq HO5.out).below hbV);try rw[hV]
 try rw[hX]
 clear hV hX hbV x0 x1 x2 x3 HO5 HB4 HB5 KE' KD;go_upto_region 4 with(go_at_call 12;(with_reducible refine(KC.out _).mono ?_);rintro e9 w6 ⟨rfl,hb6⟩;have HB6:=A6 hb6;clear hb6)
 obtain⟨V2,hV2⟩:∃V,w6.alloc (.cells #[.slice none 0 0,.slice none 0 0,.slice none 0 0,.slice none 0 0] 27)=V:=⟨_,rfl⟩
 have hb2:Below V.heap.size V V2:=by rw[<-hV2];exact bel HB6.out (A7 _ _)
 obtain⟨x0,x1,x2,x3⟩:=HX.out;have y0:=kc hb2 x0;have y1:=kc hb2 x1;have y2:=kc hb2 x2;have y3:=kc hb2 x3;have KQ2:=A6 (KQ.out V2 _ _ _ _ (HCV.below hb2));have HB2:Hid (Below w.heap.size w V2):=bel HBV.out hb2;try rw[hV2]
 clear hV2 hb2 x0 x1 x2 x3 HX KQ HCV HBV KC;go_wp2_with(first|(go_at_call 10;(with_reducible refine KQ2.out.mono ?_);rintro e9 w7 ⟨rfl,hb7⟩;have HB7:=A6 (bel HB2.out hb7);clear hb7)|(go_at_call 19;(with_reducible refine(KP.out _).mono ?_);rintro e9 w8 ⟨rfl,rfl⟩));refine bodyPost_ret (by simp[results,results11,go_sem, *];try rfl) rfl ?_;exact⟨by first|rfl|simp,HB7.out⟩


section
open Go.Lib (strCells run_append_own_string)
theorem Ji:∀ (k n i:Nat) (hi:i<(B0 k n).length),(B0 k n)[i]=n/256^i%256
 |0,n,i,hi=>by cases hi
 |k+1,n,0,hi=>by show n%256=n/1%256;rw[Nat.div_one]
 |k+1,n,i+1,hi=>by
  have hi':i<(B0 k (n/256)).length:=by
   have h9:i+1<(B0 k (n/256)).length+1:=hi;omega
  show(B0 k (n/256))[i]=_;rw[Ji k (n/256) i hi',Nat.div_div_eq_div_mul,Nat.pow_succ,Nat.mul_comm]
theorem Oc{E:Nat}{w:World}{v:Value}{l:List Nat}(h:w.ownsRow E 5 1 v l.length (GQ l))(hb:∀b∈l,b<256)(hn:0<l.length):
 ∃p q,v=.slice p l.length q/\(convert 49 9 (.slice p l.length q)).run prog w=.ok (.string (F5 l)) w:=by
 rcases h.2 with⟨-,e2⟩|⟨g,cap,cur,e1,-⟩
 .omega
 .refine⟨some ⟨g,0,none⟩,cap,e1,?_⟩;have hob:v.ownBlock=some g:=by rw[e1];rfl
  have hl:(l.map UInt8.ofNat).length=l.length:=List.length_map _;have:=run_convert_bytes_back (P:=prog) w 49 9 5 ⟨g,0,none⟩ cap (l.map UInt8.ofNat) underlying49 underlying5 underlying9 (fun j hj=>by
   have hj':j<l.length:=by rw[<-hl];exact hj
   have hlt:=hb l[j] (gD hj');have h9:=h.cells hob j (.int .u8 ((l[j]:Nat):Int)) (by unfold GQ;simp[hj'])
   rw[h9,List.getElem_map,UInt8.toNat_ofNat',Nat.mod_eq_of_lt hlt])
  rw[hl]at this;exact this
theorem IT(s:ByteArray)(hs:s.size<=140737488354000)(w:World):
 Calls prog 14 #[.string s] w fun e w'=>e=.returned (.string (F5 (Ab s++B0 8 (EV (Ab s)))))/\Below w.heap.size w w':=by
 have KR:=A6 (fun v=>FG s oM v);have hP:=If (BP s);obtain⟨P,hPe⟩:=gA (EV (Ab s))
 rw[hPe]at KR hP |-;obtain⟨i0,hi0,hz0,hz1,hz2⟩:=info_parts Fa;have ht:prog.underlying 49=some (.slice 5):=underlying49;have hu:prog.underlying 9=some .string:=underlying9;obtain⟨v1,w1,hr1,ho1,hg1,-⟩:=run_append_own_string (P:=prog) w w.heap.size _ _ 49 _ i0 ht hu hi0 hz0 hz1 hz2 (.slice none 0 0) 0 [] (World.ownsRow_nil w w.heap.size 5 1) s mL oM (gF _);obtain⟨p1,q1,rfl⟩:=AF ho1;have hb1:Below w.heap.size w w1:=(Below.refl _ _).grown hg1 (gF _) (fun b e=>by cases e);obtain⟨L,hL⟩:=gA (Ab s)
 have hLl:s.size=L.length:=by rw[<-hL,Ah]
 rw[Nat.zero_add,hLl]at hr1 ho1;rw[List.nil_append,JW,hL]at ho1;rw[hL];have HLB:Hid (∀b∈L,b<256):=fun b hb=>BP s b (by rw[hL];exact hb);have hLs:L.length<=140737488354000:=oM;have HR1:=A6 hr1;have HO1:=A6 ho1;have HB1:=A6 hb1;have HP:=A6 hP;obtain⟨T,hT⟩:=gA (F5 (L++B0 8 P))
 rw[hT];have HTT:=A6 hT;clear hr1 ho1 hb1 hg1 hL hLl hPe hP hs hT hi0 hz0 hz1 hz2 ht hu;go_enter func14,ntmps14;go_upto_block 0 with(first|(go_at_call 24;(with_reducible refine(KR.out _).mono ?_);rintro e9 w4 ⟨rfl,hw4⟩;have hw5:=hw4.symm;subst hw5)|(at_builtin;refine F0 rF _ _ _ _ rF _ _ _ rF rF HR1.out ?_))
 go_wp2_with fail
 go_loopw [4,5] (fun bv iv wx=>∃ (i n:Nat) (p:Option Addr) (q:Nat),i<=8/\iv=.int .i64 (i:Int)/\bv=.slice p n q/\Hid (n=L.length+i/\Below w.heap.size w wx/\wx.ownsRow w.heap.size 5 1 (.slice p n q) n (GQ (L++(B0 8 P).take i)))) (fun _ iv _=>8-(intOf iv).toNat)
 case atStart=>exact⟨0,_,p1,q1,dE,rfl,rfl,rfl,HB1.out,by rw[List.take_zero,List.append_nil];exact HO1.out⟩
 case round=>
  clear HR1 HO1 HB1 KR;obtain⟨i,n,p,q,hi,rfl,rfl,HJ⟩:=hrel;by_cases hlt:i<8
  .obtain⟨j1,j2,j3⟩:=HJ.out;have e1:(i:Int)<8:=oM;have w8:IntKind.i64.wrap (8*(i:Int))=((8*i:Nat):Int):=by rw[IntKind.wrap_i64];omega
   have wu:IntKind.u64.wrap ((8*i:Nat):Int)=((8*i:Nat):Int):=by unfold IntKind.wrap;simp[IntKind.signed,IntKind.bits];omega
   obtain⟨Q,hQ⟩:=gA (P/256^i)
   have hsr:(P:Int)/2^(8*i)=(Q:Int):=by rw[<-hQ,show(256:Nat)^i=2^(8*i) by rw[Nat.pow_mul],Int.natCast_ediv,Int.natCast_pow];rfl
   obtain⟨D,hD⟩:=gA (Q%256)
   have wD:IntKind.u8.wrap (Q:Int)=(D:Int):=by rw[IntKind.wrap_u8'];omega
   obtain⟨g,c',w2,a1,a2,a3,-⟩:=BN underlying49 Fa rfl dE j3 j2.size #[.int .u8 (D:Int)] rfl (fun u hu=>by simp at hu;rw[hu];rfl) mL oM 49;have hll:i<(B0 8 P).length:=by rw[AZ];exact hlt
   have hrow:GQ (L++(B0 8 P).take i)++[Value.int .u8 (D:Int)]=GQ (L++(B0 8 P).take (i+1)):=by
    rw[List.take_succ_eq_append_getElem hll,Ji 8 P i hll,hQ,hD];unfold GQ;simp
   have HA1:=A6 a1;have HN:Hid (n+1=L.length+(i+1)/\Below w.heap.size w w2/\w2.ownsRow w.heap.size 5 1 (.slice (some ⟨g,0,none⟩) (n+1) c') (n+1) (GQ (L++(B0 8 P).take (i+1)))):=⟨oM,j2.trans a2,by rw[<-hrow];exact a3⟩
   have wi:IntKind.i64.wrap ((i:Int)+1)=((i+1:Nat):Int):=by rw[IntKind.wrap_i64];omega
   have s4:(0:Int)<=((8*i:Nat):Int):=oM;clear j1 j2 j3 a1 a2 a3 hQ hD hll hrow HJ;go_wp2_with(at_builtin;refine B1 rF _ _ _ rF _ _ _ rF rF HA1.out ?_);go_roundw
   case rel=>exact⟨i+1,n+1,some ⟨g,0,none⟩,c',oM,gN,rfl,HN.out⟩
   case measure=>simp[intOf];omega
  .obtain⟨j1,j2,j3⟩:=HJ.out;have e1:¬ (i:Int)<8:=oM;have hti:(B0 8 P).take i=B0 8 P:=List.take_of_length_le (by rw[AZ];omega);rw[hti]at j3;have hn:n=(L++B0 8 P).length:=by rw[List.length_append,AZ];omega
   rw[hn]at j3;obtain⟨p',q',e2,hcv⟩:=Oc j3 (fun b hb=>by
    rcases List.mem_append.1 hb with h|h
    .exact HLB.out b h
    .exact DL _ _ b h) (by rw[List.length_append,AZ];omega)
   simp only[Value.slice.injEq,true_and]at e2;obtain⟨rfl,rfl⟩:=e2;rw[<-hn]at hcv;have HB2:=A6 j2;rw[HTT.out]at hcv;clear j1 j2 j3 hti HJ hlt hn;go_wp2;refine bodyPost_ret (by simp[results,results14,go_sem, *];try rfl) rfl ?_;exact⟨rfl,HB2.out⟩
end

structure Lt where
 a:Int
 b:Int
 c:Int
 d:Int
 e:Int
def C6(op:Int):Lt:=
 if op=1 then⟨110,45,45,45,45⟩
 else if op=2 then⟨119,45,45,45,105⟩
 else if op=3 then⟨97,99,45,45,45⟩
 else if 4<=op/\op<=10 then⟨100,120,120,45,45⟩
 else if 11<=op/\op<=14 then⟨100,120,45,45,45⟩
 else if op=15 then⟨100,120,120,120,45⟩
 else if op=16 then⟨110,110,119,45,45⟩
 else if op=17 then⟨110,119,45,45,45⟩
 else if op=18 then⟨119,110,45,45,45⟩
 else if 19<=op/\op<=20 then⟨110,118,45,45,45⟩
 else if op=21\/op=25 then⟨119,119,45,45,45⟩
 else if op=26 then⟨119,119,119,119,45⟩
 else if 22<=op/\op<=28 then⟨119,119,119,45,45⟩
 else if 29<=op/\op<=30 then⟨118,45,45,45,112⟩
 else if op=31 then⟨45,118,45,45,112⟩
 else if op=32 then⟨97,45,45,45,115⟩
 else if op=33 then⟨45,97,45,45,115⟩
 else if op=34 then⟨45,119,45,45,45⟩
 else if op=36 then⟨45,45,45,45,113⟩
 else⟨45,45,45,45,45⟩
def dR(rs:List Ty)(l D:Int):Ty:=if l=45 then⟨0,0⟩else Ay rs D
def tR(rs:List Ty)(l0 l1 D A:Int):Ty:=if l0=45/\l1≠45 then Ay rs A else dR rs l0 D
def C7(c:Cd)(l n:Int)(t:Ty):Bool:=
 if l=105 then Ca n
 else if l=112 then n==0||(n==1&&CK c.sign t.par==2)
 else if l=115 then At n c.slots.length&&decide (DJ c.slots n=t)
 else if l=113 then At n c.sign.length
 else n==0
def CE(c:Cd)(i:Ar)(L:Lt):Bool:=
 (i.op==1||i.bits==0)&&(BO i.bits&&(Ap c.regs L.a i.d ⟨0,0⟩&&(Ap c.regs L.b i.a (dR c.regs L.a i.d)&&(Ap c.regs L.c i.b (dR c.regs L.a i.d)&&(Ap c.regs L.d i.c (dR c.regs L.a i.d)&&C7 c L.e i.n (tR c.regs L.a L.b i.d i.a))))))
theorem Jj{c:Cd}(h:Av c=true){n:Int}(hp:At n c.regs.length=true):AC (Ay c.regs n) c.sign.length=true:=by
 obtain⟨k,rfl,hk⟩:=Cy hp;rw[Di rfl hk];unfold Av at h;exact List.all_eq_true.1 h _ (gD hk)
theorem Jk{c:Cd}(h:Av c=true){n:Int}(hp:At n c.regs.length=true)(hk:(Ay c.regs n).kind=1):(Ay c.regs n).par=0:=by
 have:=Jj h hp;unfold AC at this;rw[if_pos (.inl hk)]at this;simpa using this
theorem S9{c:Cd}(h:Av c=true){n m:Int}(hn:At n c.regs.length=true)(hm:At m c.regs.length=true)(hk:((Ay c.regs m).kind==1||(Ay c.regs m).kind==3)=true):
 ((Ay c.regs n).kind==1||decide (Ay c.regs n=Ay c.regs m))=(decide (Ay c.regs n=Ay c.regs m)||((Ay c.regs n).kind==1&&(Ay c.regs m).kind==3)):=by
 have h1:=Jk h hn;have h2:=Jk h hm;generalize Ay c.regs n=t at *;generalize Ay c.regs m=d at *;obtain⟨K,P⟩:=t;obtain⟨A,B⟩:=d;simp only at h1 h2 hk |-;rw[Bool.eq_iff_iff];simp only[Bool.or_eq_true,beq_iff_eq,decide_eq_true_eq,Bool.and_eq_true,Ty.mk.injEq]at hk |-;constructor
 .rintro(e|e)
  .rcases hk with k|k
   .exact .inl ⟨oM,by rw[h1 e,h2 k]⟩
   .exact .inr ⟨e,k⟩
  .exact .inl e
 .rintro(e|e)
  .exact .inr e
  .exact .inl e.1
theorem QA:BO 0=true:=dE
theorem CT(rs:List Ty)(n:Int)(d:Ty):Ap rs 45 n d=(n==0):=if_pos rfl
theorem Dc(rs:List Ty)(n:Int)(d:Ty):Ao rs 0 n d=(n==0):=if_pos rfl
theorem Bv{l:Int}(h:l≠0)(rs:List Ty)(n:Int)(d:Ty):Ao rs l n d=(At n rs.length&&Dz l (Ay rs n) d):=if_neg h
theorem Bo{l:Int}(h:l≠45)(rs:List Ty)(n:Int)(d:Ty):Ap rs l n d=(At n rs.length&&DX l (Ay rs n) d):=if_neg h
theorem EK(rs:List Ty)(n:Int)(d m:Ty):Ap rs 110 n d=Ao rs 1 n m:=by rw[Bo dE,Bv dE];rfl
theorem C3(rs:List Ty)(n:Int)(d m:Ty):Ap rs 119 n d=Ao rs 2 n m:=by rw[Bo dE,Bv dE];rfl
theorem Iz(rs:List Ty)(n:Int)(d m:Ty):Ap rs 118 n d=Ao rs 3 n m:=by rw[Bo dE,Bv dE];rfl
theorem Iy(rs:List Ty)(n:Int)(d m:Ty):Ap rs 100 n d=Ao rs 4 n m:=by rw[Bo dE,Bv dE];rfl
theorem Aw(rs:List Ty)(n:Int)(d m:Ty):Ap rs 45 n d=Ao rs 0 n m:=by rw[CT,Dc]
theorem Ix(rs:List Ty)(n:Int)(d:Ty):Ap rs 97 n d=Ao rs 6 n (Ay rs n):=by rw[Bo dE,Bv dE];simp[DX,Dz]
theorem Py(rs:List Ty)(n:Int)(d:Ty):Ap rs 99 n d=Ao rs 5 n d:=by rw[Bo dE,Bv dE];simp[DX,Dz]
theorem PB{c:Cd}(h:Av c=true)(n:Int){m:Int}(hd:Ao c.regs 4 m (Ay c.regs m)=true):Ap c.regs 120 n (Ay c.regs m)=Ao c.regs 5 n (Ay c.regs m):=by
 rw[Bo dE,Bv dE];rw[Bv dE]at hd;simp only[Bool.and_eq_true]at hd;cases hn:At n c.regs.length
 .rfl
 .rw[Bool.true_and,Bool.true_and];exact S9 h hn hd.1 hd.2
theorem AY{c:Cd}{i:Ar}{L:Lt}{R:Rw}(h1:i.op≠1)(h7:R.n≠7)(ha:Ap c.regs L.a i.d ⟨0,0⟩=Ao c.regs R.d i.d (AJ c.regs i R))
 (hb:Ao c.regs R.d i.d (AJ c.regs i R)=true->Ap c.regs L.b i.a (dR c.regs L.a i.d)=Ao c.regs R.a i.a (AJ c.regs i R))
 (hc:Ao c.regs R.d i.d (AJ c.regs i R)=true->Ap c.regs L.c i.b (dR c.regs L.a i.d)=Ao c.regs R.b i.b (AJ c.regs i R))
 (hd:Ao c.regs R.d i.d (AJ c.regs i R)=true->Ap c.regs L.d i.c (dR c.regs L.a i.d)=Ao c.regs R.c i.c (AJ c.regs i R))
 (he:C7 c L.e i.n (tR c.regs L.a L.b i.d i.a)=Ga c i.n R.n (AJ c.regs i R)):CE c i L=Be c i R:=by
 unfold CE Be BM;rw[if_neg h7,ha,he];have:(i.op==1)=false:=by simpa using h1
 rw[this,Bool.false_or];cases hX:Ao c.regs R.d i.d (AJ c.regs i R)
 .simp
 .rw[hb hX,hc hX,hd hX];cases hb:(i.bits==0)
  .simp
  .have:i.bits=0:=by simpa using hb
   rw[this,QA];simp
theorem He{c:Cd}(h:Av c=true)(i:Ar):CE c i (C6 i.op)=Be c i (Ag i.op):=by
 have x:=fun n=>@PB c h n i.d;by_cases h1:i.op=1
 .have e1:C6 i.op=⟨110,45,45,45,45⟩:=by rw[h1];rfl
  have e2:Ag i.op=⟨1,0,0,0,7⟩:=by rw[h1];rfl
  rw[e1,e2];unfold CE Be BM;simp only;rw[h1,EK _ _ _ (AJ c.regs i ⟨1,0,0,0,7⟩),CT,CT,CT,Dc,Dc,Dc];rw[show C7 c 45 i.n (tR c.regs 110 45 i.d i.a)=(i.n==0)from rfl];generalize Ao c.regs 1 i.d _=A1;cases A1<;>cases BO i.bits<;>simp
 unfold C6 Ag;rw[if_neg h1,if_neg h1];by_cases h2:i.op=2
 .rw[if_pos h2,if_pos h2];exact AY h1 dE (C3 _ _ _ _) (fun _=>Aw _ _ _ _) (fun _=>Aw _ _ _ _) (fun _=>Aw _ _ _ _) rfl
 rw[if_neg h2,if_neg h2];by_cases h3:i.op=3
 .rw[if_pos h3,if_pos h3];exact AY h1 dE (Ix _ _ _) (fun _=>Py _ _ _) (fun _=>Aw _ _ _ _) (fun _=>Aw _ _ _ _) rfl
 rw[if_neg h3,if_neg h3];by_cases h4:4<=i.op/\i.op<=10
 .rw[if_pos h4,if_pos h4];exact AY h1 dE (Iy _ _ _ _) (x _) (x _) (fun _=>Aw _ _ _ _) rfl
 rw[if_neg h4,if_neg h4];by_cases h5:11<=i.op/\i.op<=14
 .rw[if_pos h5,if_pos h5];exact AY h1 dE (Iy _ _ _ _) (x _) (fun _=>Aw _ _ _ _) (fun _=>Aw _ _ _ _) rfl
 rw[if_neg h5,if_neg h5];by_cases h6:i.op=15
 .rw[if_pos h6,if_pos h6];exact AY h1 dE (Iy _ _ _ _) (x _) (x _) (x _) rfl
 rw[if_neg h6,if_neg h6];by_cases h7:i.op=16
 .rw[if_pos h7,if_pos h7];exact AY h1 dE (EK _ _ _ _) (fun _=>EK _ _ _ _) (fun _=>C3 _ _ _ _) (fun _=>Aw _ _ _ _) rfl
 rw[if_neg h7,if_neg h7];by_cases h8:i.op=17
 .rw[if_pos h8,if_pos h8];exact AY h1 dE (EK _ _ _ _) (fun _=>C3 _ _ _ _) (fun _=>Aw _ _ _ _) (fun _=>Aw _ _ _ _) rfl
 rw[if_neg h8,if_neg h8];by_cases h9:i.op=18
 .rw[if_pos h9,if_pos h9];exact AY h1 dE (C3 _ _ _ _) (fun _=>EK _ _ _ _) (fun _=>Aw _ _ _ _) (fun _=>Aw _ _ _ _) rfl
 rw[if_neg h9,if_neg h9];by_cases h10:19<=i.op/\i.op<=20
 .rw[if_pos h10,if_pos h10];exact AY h1 dE (EK _ _ _ _) (fun _=>Iz _ _ _ _) (fun _=>Aw _ _ _ _) (fun _=>Aw _ _ _ _) rfl
 rw[if_neg h10,if_neg h10];by_cases h11:i.op=21\/i.op=25
 .rw[if_pos h11,if_pos h11];exact AY h1 dE (C3 _ _ _ _) (fun _=>C3 _ _ _ _) (fun _=>Aw _ _ _ _) (fun _=>Aw _ _ _ _) rfl
 rw[if_neg h11,if_neg h11];by_cases h12:i.op=26
 .rw[if_pos h12,if_pos h12];exact AY h1 dE (C3 _ _ _ _) (fun _=>C3 _ _ _ _) (fun _=>C3 _ _ _ _) (fun _=>C3 _ _ _ _) rfl
 rw[if_neg h12,if_neg h12];by_cases h13:22<=i.op/\i.op<=28
 .rw[if_pos h13,if_pos h13];exact AY h1 dE (C3 _ _ _ _) (fun _=>C3 _ _ _ _) (fun _=>C3 _ _ _ _) (fun _=>Aw _ _ _ _) rfl
 rw[if_neg h13,if_neg h13];by_cases h14:29<=i.op/\i.op<=30
 .rw[if_pos h14,if_pos h14];exact AY h1 dE (Iz _ _ _ _) (fun _=>Aw _ _ _ _) (fun _=>Aw _ _ _ _) (fun _=>Aw _ _ _ _) rfl
 rw[if_neg h14,if_neg h14];by_cases h15:i.op=31
 .rw[if_pos h15,if_pos h15];exact AY h1 dE (Aw _ _ _ _) (fun _=>Iz _ _ _ _) (fun _=>Aw _ _ _ _) (fun _=>Aw _ _ _ _) rfl
 rw[if_neg h15,if_neg h15];by_cases h16:i.op=32
 .rw[if_pos h16,if_pos h16];exact AY h1 dE (Ix _ _ _) (fun _=>Aw _ _ _ _) (fun _=>Aw _ _ _ _) (fun _=>Aw _ _ _ _) rfl
 rw[if_neg h16,if_neg h16];by_cases h17:i.op=33
 .rw[if_pos h17,if_pos h17];exact AY h1 dE (Aw _ _ _ _) (fun _=>Ix _ _ _) (fun _=>Aw _ _ _ _) (fun _=>Aw _ _ _ _) rfl
 rw[if_neg h17,if_neg h17];by_cases h18:i.op=34
 .rw[if_pos h18,if_pos h18];exact AY h1 dE (Aw _ _ _ _) (fun _=>C3 _ _ _ _) (fun _=>Aw _ _ _ _) (fun _=>Aw _ _ _ _) rfl
 rw[if_neg h18,if_neg h18];by_cases h19:i.op=36
 .rw[if_pos h19,if_pos h19];exact SV
 rw[if_neg h19,if_neg h19];exact SV
theorem GJ(op:Int)(hk:AB op=true):∃a b c d e:UInt8,((a.toNat:Int)=(C6 op).a/\(b.toNat:Int)=(C6 op).b/\(c.toNat:Int)=(C6 op).c/\(d.toNat:Int)=(C6 op).d/\(e.toNat:Int)=(C6 op).e)/\∀w,Calls prog 48 #[.int .i64 op] w fun x w'=>x=.returned (.tuple #[.string ⟨#[a,b,c,d,e]⟩,.bool true])/\w'=w:=by
 have hh:1<=op/\op<=37:=by unfold AB at hk;simp at hk;omega
 clear hk;have:op=1\/op=2\/op=3\/op=4\/op=5\/op=6\/op=7\/op=8\/op=9\/op=10\/op=11\/op=12\/op=13\/op=14\/op=15\/op=16\/op=17\/op=18\/op=19\/op=20\/op=21\/op=22\/op=23\/op=24\/op=25\/op=26\/op=27\/op=28\/op=29\/op=30\/op=31\/op=32\/op=33\/op=34\/op=35\/op=36\/op=37:=oM;rcases this with rfl|rfl|rfl|rfl|rfl|rfl|rfl|rfl|rfl|rfl|rfl|rfl|rfl|rfl|rfl|rfl|rfl|rfl|rfl|rfl|rfl|rfl|rfl|rfl|rfl|rfl|rfl|rfl|rfl|rfl|rfl|rfl|rfl|rfl|rfl|rfl|rfl
 .exact⟨_,_,_,_,_,⟨rfl,rfl,rfl,rfl,rfl⟩,fun w=>MO w⟩
 .exact⟨_,_,_,_,_,⟨rfl,rfl,rfl,rfl,rfl⟩,fun w=>MP w⟩
 .exact⟨_,_,_,_,_,⟨rfl,rfl,rfl,rfl,rfl⟩,fun w=>MQ w⟩
 .exact⟨_,_,_,_,_,⟨rfl,rfl,rfl,rfl,rfl⟩,fun w=>MR w⟩
 .exact⟨_,_,_,_,_,⟨rfl,rfl,rfl,rfl,rfl⟩,fun w=>MS w⟩
 .exact⟨_,_,_,_,_,⟨rfl,rfl,rfl,rfl,rfl⟩,fun w=>MT w⟩
 .exact⟨_,_,_,_,_,⟨rfl,rfl,rfl,rfl,rfl⟩,fun w=>MU w⟩
 .exact⟨_,_,_,_,_,⟨rfl,rfl,rfl,rfl,rfl⟩,fun w=>MV w⟩
 .exact⟨_,_,_,_,_,⟨rfl,rfl,rfl,rfl,rfl⟩,fun w=>MX w⟩
 .exact⟨_,_,_,_,_,⟨rfl,rfl,rfl,rfl,rfl⟩,fun w=>Jp w⟩
 .exact⟨_,_,_,_,_,⟨rfl,rfl,rfl,rfl,rfl⟩,fun w=>Jq w⟩
 .exact⟨_,_,_,_,_,⟨rfl,rfl,rfl,rfl,rfl⟩,fun w=>Jr w⟩
 .exact⟨_,_,_,_,_,⟨rfl,rfl,rfl,rfl,rfl⟩,fun w=>Js w⟩
 .exact⟨_,_,_,_,_,⟨rfl,rfl,rfl,rfl,rfl⟩,fun w=>Jt w⟩
 .exact⟨_,_,_,_,_,⟨rfl,rfl,rfl,rfl,rfl⟩,fun w=>Ju w⟩
 .exact⟨_,_,_,_,_,⟨rfl,rfl,rfl,rfl,rfl⟩,fun w=>Jv w⟩
 .exact⟨_,_,_,_,_,⟨rfl,rfl,rfl,rfl,rfl⟩,fun w=>Jw w⟩
 .exact⟨_,_,_,_,_,⟨rfl,rfl,rfl,rfl,rfl⟩,fun w=>Jx w⟩
 .exact⟨_,_,_,_,_,⟨rfl,rfl,rfl,rfl,rfl⟩,fun w=>Jy w⟩
 .exact⟨_,_,_,_,_,⟨rfl,rfl,rfl,rfl,rfl⟩,fun w=>Jz w⟩
 .exact⟨_,_,_,_,_,⟨rfl,rfl,rfl,rfl,rfl⟩,fun w=>JA w⟩
 .exact⟨_,_,_,_,_,⟨rfl,rfl,rfl,rfl,rfl⟩,fun w=>JB w⟩
 .exact⟨_,_,_,_,_,⟨rfl,rfl,rfl,rfl,rfl⟩,fun w=>JC w⟩
 .exact⟨_,_,_,_,_,⟨rfl,rfl,rfl,rfl,rfl⟩,fun w=>JD w⟩
 .exact⟨_,_,_,_,_,⟨rfl,rfl,rfl,rfl,rfl⟩,fun w=>JE w⟩
 .exact⟨_,_,_,_,_,⟨rfl,rfl,rfl,rfl,rfl⟩,fun w=>JF w⟩
 .exact⟨_,_,_,_,_,⟨rfl,rfl,rfl,rfl,rfl⟩,fun w=>JG w⟩
 .exact⟨_,_,_,_,_,⟨rfl,rfl,rfl,rfl,rfl⟩,fun w=>JH w⟩
 .exact⟨_,_,_,_,_,⟨rfl,rfl,rfl,rfl,rfl⟩,fun w=>JI w⟩
 .exact⟨_,_,_,_,_,⟨rfl,rfl,rfl,rfl,rfl⟩,fun w=>JJ w⟩
 .exact⟨_,_,_,_,_,⟨rfl,rfl,rfl,rfl,rfl⟩,fun w=>JK w⟩
 .exact⟨_,_,_,_,_,⟨rfl,rfl,rfl,rfl,rfl⟩,fun w=>JL w⟩
 .exact⟨_,_,_,_,_,⟨rfl,rfl,rfl,rfl,rfl⟩,fun w=>JM w⟩
 .exact⟨_,_,_,_,_,⟨rfl,rfl,rfl,rfl,rfl⟩,fun w=>JN w⟩
 .exact⟨_,_,_,_,_,⟨rfl,rfl,rfl,rfl,rfl⟩,fun w=>JO w⟩
 .exact⟨_,_,_,_,_,⟨rfl,rfl,rfl,rfl,rfl⟩,fun w=>JP w⟩
 .exact⟨_,_,_,_,_,⟨rfl,rfl,rfl,rfl,rfl⟩,fun w=>JQ w⟩
def BA(b:Int):Prop:=b=45\/b=110\/b=119\/b=118\/b=100\/b=120\/b=99\/b=97
instance (b:Int):Decidable (BA b):=by unfold BA;infer_instance
def Qt(L:Lt):Bool:=decide (BA L.a)&&(decide (BA L.b)&&(decide (BA L.c)&&(decide (BA L.d)&&(decide (L.e=45\/L.e=105\/L.e=112\/L.e=115\/L.e=113)&&decide (L.e=112->L.a=118\/(L.a=45/\L.b=118))))))
theorem O5{p:Prop}[Decidable p]{x y:Lt}(h:Qt x=true)(k:Qt y=true):Qt (if p then x else y)=true:=by
 split
 .exact h
 .exact k
theorem NV(op:Int):Qt (C6 op)=true:=by
 unfold C6
 iterate 19 refine O5 dE ?_
 decide
theorem Po(op:Int):BA (C6 op).a/\BA (C6 op).b/\BA (C6 op).c/\BA (C6 op).d/\((C6 op).e=45\/(C6 op).e=105\/(C6 op).e=112\/(C6 op).e=115\/(C6 op).e=113)/\((C6 op).e=112->(C6 op).a=118\/((C6 op).a=45/\(C6 op).b=118)):=by
 have:=NV op;unfold Qt at this;simp only[Bool.and_eq_true,decide_eq_true_eq]at this;exact this
theorem Mh(v0 v1 v2 v3:Value)(i:Ar)(h0:0<=i.bits)(h1:i.bits<4294967296)(h:(AB i.op&&((i.op==1||i.bits==0)&&BO i.bits))=false)(w:World):
 Calls prog 68 #[.agg #[v0,v1,v2,v3],Bn i] w fun e w'=>e=.returned (.bool false)/\Below w.heap.size w w':=by
 have HCAN:Hid (∀w,Calls prog 67 #[.int .u32 i.bits] w fun e w'=>e=.returned (.bool (BO i.bits))/\Below w.heap.size w w'):=Cz i.bits h0 h1;cases hk:AB i.op
 .have HROW:Hid (∀w,Calls prog 48 #[.int .i64 i.op] w fun e w'=>e=.returned (.tuple #[.string ⟨#[]⟩,.bool false])/\w'=w):=Gk i.op hk;obtain⟨op,D,A,B,E,n,bt⟩:=i;unfold Bn;simp only at HROW HCAN |-;clear h hk;go_enter func68,ntmps68;go_wp2_with(go_at_call 48;refine(HROW.out _).mono ?_;rintro e w1 ⟨rfl,rfl⟩);go_ret;exact Nv
 .obtain⟨a,b,c,d,e,-,hc⟩:=GJ i.op hk;have HROW:Hid (∀w,Calls prog 48 #[.int .i64 i.op] w fun x w'=>x=.returned (.tuple #[.string ⟨#[a,b,c,d,e]⟩,.bool true])/\w'=w):=hc;rw[hk,Bool.true_and]at h;clear hc hk;obtain⟨op,D,A,B,E,n,bt⟩:=i;unfold Bn;simp only at HROW HCAN h |-;cases ho:(op==1)
  .have ho':(op != 1)=true:=by simpa using ho
   cases hz:(bt==0)
   .have hz':(bt != 0)=true:=by simpa using hz
    clear h;go_enter func68,ntmps68;go_wp2_with(go_at_call 48;refine(HROW.out _).mono ?_;rintro e w1 ⟨rfl,rfl⟩);go_ret;exact Nv
   .rw[ho,hz,Bool.false_or,Bool.true_and]at h;rw[h]at HCAN;have hz':(bt != 0)=false:=by simpa using hz
    exact Sx
  .rw[ho,Bool.true_or,Bool.true_and]at h;rw[h]at HCAN;have ho':(op != 1)=false:=by simpa using ho
   exact Sx
structure TW(w:World)(v0 v1 v2 v3:Value)(J:Nat)(op D A B E n bt:Int)(v:World):Prop where
 bel:Below w.heap.size w v
 c0:v.cell? ⟨w.heap.size,0,none⟩=some v0
 c1:v.cell? ⟨w.heap.size,1,none⟩=some v1
 c2:v.cell? ⟨w.heap.size,2,none⟩=some v2
 c3:v.cell? ⟨w.heap.size,3,none⟩=some v3
 i0:v.cell? ⟨J,0,none⟩=some (.int .i64 op)
 i1:v.cell? ⟨J,1,none⟩=some (.int .i64 D)
 i2:v.cell? ⟨J,2,none⟩=some (.int .i64 A)
 i3:v.cell? ⟨J,3,none⟩=some (.int .i64 B)
 i4:v.cell? ⟨J,4,none⟩=some (.int .i64 E)
 i5:v.cell? ⟨J,5,none⟩=some (.int .i64 n)
 i6:v.cell? ⟨J,6,none⟩=some (.int .u32 bt)
theorem TW.next{w:World}{v0 v1 v2 v3:Value}{J:Nat}{op D A B E n bt:Int}{v v':World}(h:TW w v0 v1 v2 v3 J op D A B E n bt v)(k:Below v.heap.size v v'):TW w v0 v1 v2 v3 J op D A B E n bt v':=
 ⟨Go.Proofs.YtnlgkkbmbijndaaGreat.bel h.bel k,kc k h.c0,kc k h.c1,kc k h.c2,kc k h.c3,kc k h.i0,kc k h.i1,kc k h.i2,kc k h.i3,kc k h.i4,kc k h.i5,kc k h.i6⟩
theorem TW.keep{w:World}{v0 v1 v2 v3:Value}{J:Nat}{op D A B E n bt:Int}{v:World}(h:TW w v0 v1 v2 v3 J op D A B E n bt v){g o:Nat}(x:Value)(h1:w.heap.size<g)(h2:g≠J):TW w v0 v1 v2 v3 J op D A B E n bt (v.setCell ⟨g,o,none⟩ x):=by
 have f1:∀j,(v.setCell ⟨g,o,none⟩ x).cell? ⟨w.heap.size,j,none⟩=v.cell? ⟨w.heap.size,j,none⟩:=fun j=>gC (gE (by show w.heap.size≠g;omega));have f2:∀j,(v.setCell ⟨g,o,none⟩ x).cell? ⟨J,j,none⟩=v.cell? ⟨J,j,none⟩:=fun j=>gC (gE (by show J≠g;omega));exact⟨h.bel.setCell (by show w.heap.size<=g;omega) _,(f1 0).trans h.c0,(f1 1).trans h.c1,(f1 2).trans h.c2,(f1 3).trans h.c3,(f2 0).trans h.i0,(f2 1).trans h.i1,(f2 2).trans h.i2,(f2 3).trans h.i3,(f2 4).trans h.i4,(f2 5).trans h.i5,(f2 6).trans h.i6⟩
theorem TW.start(w:World)(v0 v1 v2 v3:Value)(op D A B E n bt:Int):TW w v0 v1 v2 v3 (w.heap.size+1) op D A B E n bt ((w.alloc (.cells #[v0,v1,v2,v3] 27)).alloc (.cells #[.int .i64 op,.int .i64 D,.int .i64 A,.int .i64 B,.int .i64 E,.int .i64 n,.int .u32 bt] 70)):=by
 have k:=A7 (w.alloc (.cells #[v0,v1,v2,v3] 27)) (.cells #[.int .i64 op,.int .i64 D,.int .i64 A,.int .i64 B,.int .i64 E,.int .i64 n,.int .u32 bt] 70);exact⟨Go.Proofs.YtnlgkkbmbijndaaGreat.bel (A7 _ _) k,kc k sG,kc k sG,kc k sG,kc k sG,sG,sG,sG,sG,sG,sG,sG⟩
theorem Cl{n:Nat}{w v:World}(h:Below n w v):Below n w v.drew:=h.drew

end Go.Proofs.YtnlgkkbmbijndaaGreat
