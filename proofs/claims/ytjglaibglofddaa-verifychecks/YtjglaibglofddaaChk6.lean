import Derived.Test.YtjglaibglofddaaChk3
import Derived.Deep.CutBlock
import Derived.Test.YtjglaibglofddaaRows
import Derived.WalkKit
import Derived.WalkSpells
import Derived.WalkLawsBesides
import Derived.Test.YtjglaibglofddaaChk4
import Derived.Laws.FloatArith
import Derived.Laws.Externs
import Derived.Below
import Derived.Handy
import Derived.Test.YtjglaibglofddaaChk1
namespace Go.Proofs.Ytjglaibglofddaa
open Go.RowKit Go.Proofs.Try
set_option linter.all false
set_option maxRecDepth 100000
set_option maxHeartbeats 16000000
structure PS(E G C n gi H:Nat)(L0:Int)(w:World)(t:Wk)(vs vo:Value)(v:World):Prop where
 bel:Below E w v
 st:WS E G C n gi vs vo v t
 box:v.cell? ⟨H,0,none⟩=some (.int .i64 L0)
 n1:H≠G
 n2:H≠gi
theorem Hm(E G C n gi:Nat)(vs vo:Value)(s:Wk)(b o:Nat)(i:Av)(r:Rw)(w:World)(h:WS E G C n gi vs vo w s)(ok:BB n s)(hn:n<=16384)(hi:Ai w b o (Ci i))(hbE:b<E)
 (hm:i.op=34\/i.op=36->s.opens.length<64) (he:i.op=35\/i.op=37->s.opens≠[]) (hd:r.d≠0->0<=i.d/\i.d<(n:Int)):
 Calls prog 46 #[.pointer (some ⟨G,0,none⟩),.pointer (some ⟨b,o,none⟩),Bi r] w fun e w'=>e=.returned (.tuple #[])/\Below E w w'/\∃vs' vo',WS E G C n gi vs' vo' w' (DA s i r):=by
 have e0:=hi.at 0 rfl;have e1:=hi.at 1 rfl;have e5:=hi.at 5 rfl;rw[Nat.add_zero]at e0;have hok:BB n (CR s i):=ok.turn hm;unfold DA;have htu:CR s i=if i.op=34\/i.op=36 then⟨s.set,⟨i.op==36,i.n,s.set.length⟩::s.opens⟩else if i.op=35\/i.op=37 then Ay s else s:=rfl;obtain⟨T,hT⟩:=gA (CR s i)
 rw[hT]at hok htu |-;have HT:Hid (T=if i.op=34\/i.op=36 then⟨s.set,⟨i.op==36,i.n,s.set.length⟩::s.opens⟩else if i.op=35\/i.op=37 then Ay s else s):=htu;clear htu hT;have had:Em T i r=if r.d≠0/\i.d.toNat∉T.set then⟨T.set++[i.d.toNat],T.opens⟩else T:=rfl;obtain⟨R,hR⟩:=gA (Em T i r)
 rw[hR]at had |-;have HR:Hid (R=if r.d≠0/\i.d.toNat∉T.set then⟨T.set++[i.d.toNat],T.opens⟩else T):=had;clear had hR hi;have HOK:Hid (BB n T):=hok;obtain⟨io,D,A,B,F,N,bt⟩:=i;obtain⟨L0,L1,L2,L3,L4⟩:=r;simp only at e0 e1 e5 hm he hd HT HR hok;unfold Bi;have HD:Hid (L0≠0->0<=D/\D<(n:Int)):=hd;have HS:Hid (WS E G C n gi vs vo w s):=h;have HS1:Hid (WS E G C n gi vs vo (w.alloc (.cells #[.int .i64 L0,.int .i64 L1,.int .i64 L2,.int .i64 L3,.int .i64 L4] 89)) s):=h.below (A0 _ _);have hE:=h.lt;have hG:=h.g.lt;have hgi:=h.i.lt;have nG:G≠w.heap.size:=oM;have ngi:gi≠w.heap.size:=oM;have nbG:b≠G:=by have:=h.hG;omega
 have nbi:b≠gi:=by have:=h.hgi;omega
 have hbw:b≠w.heap.size:=oM;have nGb:G≠b:=Ne.symm nbG;have nib:gi≠b:=Ne.symm nbi;have niG:gi≠G:=h.n1;have nGi:G≠gi:=Ne.symm h.n1;have HB1:Hid (Below E w (w.alloc (.cells #[.int .i64 L0,.int .i64 L1,.int .i64 L2,.int .i64 L3,.int .i64 L4] 89))):=(Below.refl E w).alloc hE _;have HE:Hid (∀v,Below E w v->v.cell? ⟨b,o,none⟩=some (.int .i64 io)/\v.cell? ⟨b,o+1,none⟩=some (.int .i64 D)/\v.cell? ⟨b,o+5,none⟩=some (.int .i64 N)):=fun v hv=>⟨(hv.cell hbE).trans e0,(hv.cell hbE).trans e1,(hv.cell hbE).trans e5⟩
 have HVB:Hid ((w.alloc (.cells #[.int .i64 L0,.int .i64 L1,.int .i64 L2,.int .i64 L3,.int .i64 L4] 89)).cell? ⟨w.heap.size,0,none⟩=some (.int .i64 L0)):=by show _=_;simp[go_sem]
 obtain⟨z0,z1,z5⟩:=HE.out _ HB1.out;have HOS:Hid (BB n s):=ok;have HM:Hid (io=34\/io=36->s.opens.length<64):=hm;have HQ:Hid (io=35\/io=37->s.opens≠[]):=he;clear hd h hok hm he ok e0 e1 e5;go_enter func46,ntmps46;go_upto_block 0 with fail;obtain⟨V,hV⟩:=gA (w.alloc (.cells #[.int .i64 L0,.int .i64 L1,.int .i64 L2,.int .i64 L3,.int .i64 L4] 89))
 have hVs:V.heap.size=w.heap.size+1:=by rw[<-hV];simp
 rw[hV]at HS1 HB1 HVB z0 z1 z5 |-;have HVS:Hid (V.heap.size=w.heap.size+1):=hVs;clear hV hVs;go_cut [10] (fun bv wx=>∃vs1 vo1,PS E G C n gi w.heap.size L0 w T vs1 vo1 wx)
 case first=>
  have c2:=HS1.c2;have c3:=HS1.c3;by_cases h34:io=34
  .have q1:(io==34)=true:=by simpa using h34
   have q2:(io==36)=false:=by have:io≠36:=oM;simpa using this
   obtain⟨g,cap,w3,hr,hb3,c33,f33,c32,hfar,hw3⟩:=Es HS1.x (by have:=HM.out (.inl h34);omega) false N s.set.length;have HT1:Hid (T=⟨s.set,⟨false,N,s.set.length⟩::s.opens⟩):=by show _=_;rw[HT.out,if_pos (.inl h34)];rw[show(io==36)=false from q2]
   obtain⟨pS,cS,hvs⟩:=Ap HS1.set;obtain⟨y0,y1,y5⟩:=HE.out w3 (HB1.trans hb3);have HP:Hid (PS E G C n gi w.heap.size L0 w T vs (.slice (some ⟨g,0,none⟩) (s.opens.length+1) cap) (w3.setCell ⟨G,3,none⟩ (.slice (some ⟨g,0,none⟩) (s.opens.length+1) cap))):=by
    refine⟨(HB1.trans hb3).setCell HS.hG _,?_,?_,oM,oM⟩
    .rw[HT1.out];exact WX.st (s:=⟨s.set,⟨false,N,s.set.length⟩::s.opens⟩) hw3 fun j _=>rfl
    .exact LQ
   have HR3:Hid ((Builtin.append_ #[69,69] 69 #[vo,.slice (some ⟨V.heap.size,0,none⟩) 1 1]).run prog ((V.alloc (.cells #[.bool false,.int .i64 N,.int .i64 (s.set.length:Int)] 114)).drew)=.ok (.slice (some ⟨g,0,none⟩) (s.opens.length+1) cap) w3):=hr;subst hvs;have c5:(w3.setCell ⟨G,3,none⟩ (.slice (some ⟨g,0,none⟩) (s.opens.length+1) cap)).cell? ⟨G,2,none⟩=some (.slice pS s.set.length cS):=by rw[World.cell?_setCell_other _ _ _ _ sM];exact c32
   have nG2:G≠V.heap.size:=by have:=HVS.out;omega
   have c4:(V.alloc (.cells #[.bool false,.int .i64 N,.int .i64 (s.set.length:Int)] 114)).cell? ⟨G,3,none⟩=some vo:=kc (A0 _ _) c3;have nb2:b≠V.heap.size:=by have:=HVS.out;omega
   clear hr hb3 hfar hw3 h34;exact Lv
  by_cases h36:io=36
  .have q1:(io==34)=false:=by simpa using h34
   have q2:(io==36)=true:=by simpa using h36
   obtain⟨g,cap,w3,hr,hb3,c33,f33,c32,hfar,hw3⟩:=Es HS1.x (by have:=HM.out (.inr h36);omega) true N s.set.length;have HT1:Hid (T=⟨s.set,⟨true,N,s.set.length⟩::s.opens⟩):=by show _=_;rw[HT.out,if_pos (.inr h36)];rw[show(io==36)=true from q2]
   obtain⟨pS,cS,hvs⟩:=Ap HS1.set;obtain⟨y0,y1,y5⟩:=HE.out w3 (HB1.trans hb3);have HP:Hid (PS E G C n gi w.heap.size L0 w T vs (.slice (some ⟨g,0,none⟩) (s.opens.length+1) cap) (w3.setCell ⟨G,3,none⟩ (.slice (some ⟨g,0,none⟩) (s.opens.length+1) cap))):=by
    refine⟨(HB1.trans hb3).setCell HS.hG _,?_,?_,oM,oM⟩
    .rw[HT1.out];exact WX.st (s:=⟨s.set,⟨true,N,s.set.length⟩::s.opens⟩) hw3 fun j _=>rfl
    .exact LQ
   have HR3:Hid ((Builtin.append_ #[69,69] 69 #[vo,.slice (some ⟨V.heap.size,0,none⟩) 1 1]).run prog ((V.alloc (.cells #[.bool true,.int .i64 N,.int .i64 (s.set.length:Int)] 114)).drew)=.ok (.slice (some ⟨g,0,none⟩) (s.opens.length+1) cap) w3):=hr;subst hvs;have c5:(w3.setCell ⟨G,3,none⟩ (.slice (some ⟨g,0,none⟩) (s.opens.length+1) cap)).cell? ⟨G,2,none⟩=some (.slice pS s.set.length cS):=by rw[World.cell?_setCell_other _ _ _ _ sM];exact c32
   have nG2:G≠V.heap.size:=by have:=HVS.out;omega
   have c4:(V.alloc (.cells #[.bool true,.int .i64 N,.int .i64 (s.set.length:Int)] 114)).cell? ⟨G,3,none⟩=some vo:=kc (A0 _ _) c3;have nb2:b≠V.heap.size:=by have:=HVS.out;omega
   clear hr hb3 hfar hw3 h34 h36;exact Lv
  have q1:(io==34)=false:=by simpa using h34
  have q2:(io==36)=false:=by simpa using h36
  have hno:¬ (io=34\/io=36):=fun e=>e.elim h34 h36;by_cases h35:io=35\/io=37
  .have HT1:Hid (T=Ay s):=by show _=_;rw[HT.out,if_neg hno,if_pos h35]
   have HK:Hid (Calls prog 67 #[.pointer (some ⟨G,0,none⟩)] V fun e w'=>e=.returned (.tuple #[])/\Below E V w'/\(∀k,k<V.heap.size->k≠G->k≠gi->w'.heap[k]? =V.heap[k]?)/\∃vs' vo',WS E G C n gi vs' vo' w' (Ay s)):=GA E G C n gi vs vo s V HS1.out HOS.out hn (HQ.out h35);rcases h35 with h|h
   .have q3:(io==35)=true:=by simpa using h
    exact LK
   .have q3:(io==35)=false:=by have:io≠35:=oM;simpa using this
    have q4:(io==37)=true:=by simpa using h
    exact LK
  .have HT1:Hid (T=s):=by show _=_;rw[HT.out,if_neg hno,if_neg h35]
   have q3:(io==35)=false:=by have:io≠35:=(fun e=>h35 (.inl e));simpa using this
   have q4:(io==37)=false:=by have:io≠37:=(fun e=>h35 (.inr e));simpa using this
   have HP:Hid (PS E G C n gi w.heap.size L0 w T vs vo V):=⟨HB1.out,by rw[HT1.out];exact HS1.out,HVB.out,oM,oM⟩
   clear h34 h35 h36 hno;go_wp2;go_meet;exact⟨_,_,HP.out⟩
 case rest=>
  obtain⟨vs1,vo1,ps⟩:=hcut;clear HS1 HB1 HVB z0 z1 z5 HVS HS HOS HM HQ HT;have HPS:Hid (PS E G C n gi w.heap.size L0 w T vs1 vo1 wc):=ps;have bx:=ps.box;have d1:=ps.st.c1;have hX:=ps.st.i;obtain⟨y0,y1,y5⟩:=HE.out wc ps.bel;clear ps;by_cases hz:L0=0
  .have hz':(L0 != 0)=false:=by simpa using hz
   have hz2:(L0==0)=true:=by simpa using hz
   have HR1:Hid (R=T):=by show _=_;rw[HR.out,if_neg (fun e=>e.1 hz)]
   clear hz;go_wp2;refine rG (fun v=>v.cell? ⟨w.heap.size,0,none⟩=some (.int .i64 L0)) fun hJ=>?_;refine wpAnyH_take (i:=0) (v:=?_) A2 kR kR kR A3 (Or.inl ⟨rF,?_⟩) A4 ?_
   rotate_left 1
   ·(intro wS hSw;(try dsimp only at hSw);go_simp;try(with_reducible rfl))
   try simp only[Act.put,List.setIfInBounds_toArray,List.set_cons_zero,List.set_cons_succ]
   refine wpAnyH_take (i:=1) (v:=?_) A2 kR kR kR A3 (Or.inl ⟨rF,?_⟩) A4 ?_
   rotate_left 1
   ·(intro wS hSw;(try dsimp only at hSw);go_simp;try(with_reducible rfl))
   try simp only[Act.put,List.setIfInBounds_toArray,List.set_cons_zero,List.set_cons_succ]
   refine wpAnyH_take (i:=2) (v:=?_) A2 kR kR kR A3 (Or.inl ⟨rF,?_⟩) A4 ?_
   rotate_left 1
   ·(intro wS hSw;(try dsimp only at hSw);go_simp;try(with_reducible rfl))
   try simp only[Act.put,List.setIfInBounds_toArray,List.set_cons_zero,List.set_cons_succ]
   refine wpAnyH_take (i:=3) (v:=?_) A2 kR kR kR A3 (Or.inl ⟨rF,?_⟩) A4 ?_
   rotate_left 1
   ·(intro wS hSw;(try dsimp only at hSw);go_simp;try(with_reducible rfl))
   try simp only[Act.put,List.setIfInBounds_toArray,List.set_cons_zero,List.set_cons_succ]
   refine wpAnyH_take (i:=4) (v:=undef) A2 kR kR kR A3 (Or.inr ⟨rF,rfl⟩) A4 ?_;try simp only[Act.put,List.setIfInBounds_toArray,List.set_cons_zero,List.set_cons_succ]
   refine wpAnyH_take (i:=5) (v:=undef) A2 kR kR kR A3 (Or.inr ⟨rF,rfl⟩) A4 ?_;try simp only[Act.put,List.setIfInBounds_toArray,List.set_cons_zero,List.set_cons_succ]
   refine wpAnyH_take (i:=6) (v:=undef) A2 kR kR kR A3 (Or.inr ⟨rF,rfl⟩) A4 ?_;try simp only[Act.put,List.setIfInBounds_toArray,List.set_cons_zero,List.set_cons_succ]
   refine wpAnyH_take (i:=7) (v:=undef) A2 kR kR kR A3 (Or.inr ⟨rF,rfl⟩) A4 ?_;try simp only[Act.put,List.setIfInBounds_toArray,List.set_cons_zero,List.set_cons_succ]
   refine wpAnyH_take (i:=8) (v:=undef) A2 kR kR kR A3 (Or.inr ⟨rF,rfl⟩) A4 ?_;try simp only[Act.put,List.setIfInBounds_toArray,List.set_cons_zero,List.set_cons_succ]
   refine wpAnyH_take (i:=9) (v:=undef) A2 kR kR kR A3 (Or.inr ⟨rF,rfl⟩) A4 ?_;try simp only[Act.put,List.setIfInBounds_toArray,List.set_cons_zero,List.set_cons_succ]
   refine wpAnyH_take (i:=10) (v:=undef) A2 kR kR kR A3 (Or.inr ⟨rF,rfl⟩) A4 ?_;try simp only[Act.put,List.setIfInBounds_toArray,List.set_cons_zero,List.set_cons_succ]
   refine wpAnyH_take (i:=11) (v:=undef) A2 kR kR kR A3 (Or.inr ⟨rF,rfl⟩) A4 ?_;try simp only[Act.put,List.setIfInBounds_toArray,List.set_cons_zero,List.set_cons_succ]
   refine wpAnyH_take (i:=12) (v:=undef) A2 kR kR kR A3 (Or.inr ⟨rF,rfl⟩) A4 ?_;try simp only[Act.put,List.setIfInBounds_toArray,List.set_cons_zero,List.set_cons_succ]
   refine wpAnyH_take (i:=13) (v:=undef) A2 kR kR kR A3 (Or.inr ⟨rF,rfl⟩) A4 ?_;try simp only[Act.put,List.setIfInBounds_toArray,List.set_cons_zero,List.set_cons_succ]
   refine wpAnyH_take (i:=14) (v:=undef) A2 kR kR kR A3 (Or.inr ⟨rF,rfl⟩) A4 ?_;try simp only[Act.put,List.setIfInBounds_toArray,List.set_cons_zero,List.set_cons_succ]
   refine wpAnyH_take (i:=15) (v:=?_) A2 kR kR kR A3 (Or.inl ⟨rF,?_⟩) A4 ?_
   rotate_left 1
   ·(intro wS hSw;(try dsimp only at hSw);go_simp;try(with_reducible rfl))
   try simp only[Act.put,List.setIfInBounds_toArray,List.set_cons_zero,List.set_cons_succ]
   refine wpAnyH_done kR ?_ _;go_wp2;first|go_end0|(simp only[Exit.inBlock,Exit.then];refine bodyPost_ret (results_none rfl _ _ _) rfl ?_)|refine bodyPost_ret (results_none rfl _ _ _) rfl ?_
   exact⟨rfl,HPS.bel.drew,_,_,by rw[HR1.out];exact HPS.st.below (A7 _)⟩
  .have hz':(L0 != 0)=true:=by simpa using hz
   have hz2:(L0==0)=false:=by simpa using hz
   obtain⟨hD0,hDn⟩:=HD.out hz;obtain⟨x,rfl⟩:∃x:Nat,D=(x:Int):=⟨D.toNat,oM⟩
   have hxn:x<n:=oM;have v1:=hX.cell hxn;have v2:=hX.frozen x;rw[Int.toNat_natCast]at HR;have HR1:Hid (R=if x∉T.set then⟨T.set++[x],T.opens⟩else T):=by
    show _=_;rw[HR.out];by_cases hx:x∈T.set
    .rw[if_neg (fun e=>e.2 hx),if_neg (fun e=>e hx)]
    .rw[if_pos ⟨hz,hx⟩,if_pos hx]
   clear hX HR hz;by_cases hx:x∈T.set
   .have hdec:decide (x∈T.set)=true:=by simpa using hx
    have HR2:Hid (R=T):=by show _=_;rw[HR1.out,if_neg (fun e=>e hx)]
    rw[hdec]at v1;clear HR1 hx;go_wp2;refine rG (fun v=>v.cell? ⟨w.heap.size,0,none⟩=some (.int .i64 L0)/\v.cell? ⟨b,o+1,none⟩=some (.int .i64 (x:Int))/\v.cell? ⟨G,1,none⟩=some (.slice (some ⟨gi,0,none⟩) n n)/\v.cell? ⟨gi,x,none⟩=some (.bool true)) fun hJ=>?_;refine wpAnyH_take (i:=0) (v:=?_) A2 kR kR kR A3 (Or.inl ⟨rF,?_⟩) A4 ?_
    rotate_left 1
    ·(intro wS hSw;(try dsimp only at hSw);go_simp;try(with_reducible rfl))
    try simp only[Act.put,List.setIfInBounds_toArray,List.set_cons_zero,List.set_cons_succ]
    refine wpAnyH_take (i:=1) (v:=?_) A2 kR kR kR A3 (Or.inl ⟨rF,?_⟩) A4 ?_
    rotate_left 1
    ·(intro wS hSw;(try dsimp only at hSw);go_simp;try(with_reducible rfl))
    try simp only[Act.put,List.setIfInBounds_toArray,List.set_cons_zero,List.set_cons_succ]
    refine wpAnyH_take (i:=2) (v:=?_) A2 kR kR kR A3 (Or.inl ⟨rF,?_⟩) A4 ?_
    rotate_left 1
    ·(intro wS hSw;(try dsimp only at hSw);go_simp;try(with_reducible rfl))
    try simp only[Act.put,List.setIfInBounds_toArray,List.set_cons_zero,List.set_cons_succ]
    refine wpAnyH_take (i:=3) (v:=?_) A2 kR kR kR A3 (Or.inl ⟨rF,?_⟩) A4 ?_
    rotate_left 1
    ·(intro wS hSw;(try dsimp only at hSw);go_simp;try(with_reducible rfl))
    try simp only[Act.put,List.setIfInBounds_toArray,List.set_cons_zero,List.set_cons_succ]
    refine wpAnyH_take (i:=4) (v:=?_) A2 kR kR kR A3 (Or.inl ⟨rF,?_⟩) A4 ?_
    rotate_left 1
    ·(intro wS hSw;(try dsimp only at hSw);go_simp;try(with_reducible rfl))
    try simp only[Act.put,List.setIfInBounds_toArray,List.set_cons_zero,List.set_cons_succ]
    refine wpAnyH_take (i:=5) (v:=?_) A2 kR kR kR A3 (Or.inl ⟨rF,?_⟩) A4 ?_
    rotate_left 1
    ·(intro wS hSw;(try dsimp only at hSw);go_simp;try(with_reducible rfl))
    try simp only[Act.put,List.setIfInBounds_toArray,List.set_cons_zero,List.set_cons_succ]
    refine wpAnyH_take (i:=6) (v:=?_) A2 kR kR kR A3 (Or.inl ⟨rF,?_⟩) A4 ?_
    rotate_left 1
    ·(intro wS hSw;(try dsimp only at hSw);go_simp;try(with_reducible rfl))
    try simp only[Act.put,List.setIfInBounds_toArray,List.set_cons_zero,List.set_cons_succ]
    refine wpAnyH_take (i:=7) (v:=?_) A2 kR kR kR A3 (Or.inl ⟨rF,?_⟩) A4 ?_
    rotate_left 1
    ·(intro wS hSw;(try dsimp only at hSw);go_simp;try(with_reducible rfl))
    try simp only[Act.put,List.setIfInBounds_toArray,List.set_cons_zero,List.set_cons_succ]
    refine wpAnyH_take (i:=8) (v:=?_) A2 kR kR kR A3 (Or.inl ⟨rF,?_⟩) A4 ?_
    rotate_left 1
    ·(intro wS hSw;(try dsimp only at hSw);go_simp;try(with_reducible rfl))
    try simp only[Act.put,List.setIfInBounds_toArray,List.set_cons_zero,List.set_cons_succ]
    refine wpAnyH_take (i:=9) (v:=?_) A2 kR kR kR A3 (Or.inl ⟨rF,?_⟩) A4 ?_
    rotate_left 1
    ·(intro wS hSw;(try dsimp only at hSw);go_simp;try(with_reducible rfl))
    try simp only[Act.put,List.setIfInBounds_toArray,List.set_cons_zero,List.set_cons_succ]
    refine wpAnyH_take (i:=10) (v:=?_) A2 kR kR kR A3 (Or.inl ⟨rF,?_⟩) A4 ?_
    rotate_left 1
    ·(intro wS hSw;(try dsimp only at hSw);go_simp;try(with_reducible rfl))
    try simp only[Act.put,List.setIfInBounds_toArray,List.set_cons_zero,List.set_cons_succ]
    refine wpAnyH_take (i:=11) (v:=?_) A2 kR kR kR A3 (Or.inl ⟨rF,?_⟩) A4 ?_
    rotate_left 1
    ·(intro wS hSw;(try dsimp only at hSw);go_simp;try(with_reducible rfl))
    try simp only[Act.put,List.setIfInBounds_toArray,List.set_cons_zero,List.set_cons_succ]
    refine wpAnyH_take (i:=12) (v:=?_) A2 kR kR kR A3 (Or.inl ⟨rF,?_⟩) A4 ?_
    rotate_left 1
    ·(intro wS hSw;(try dsimp only at hSw);go_simp;try(with_reducible rfl))
    try simp only[Act.put,List.setIfInBounds_toArray,List.set_cons_zero,List.set_cons_succ]
    refine wpAnyH_take (i:=13) (v:=?_) A2 kR kR kR A3 (Or.inl ⟨rF,?_⟩) A4 ?_
    rotate_left 1
    ·(intro wS hSw;(try dsimp only at hSw);go_simp;try(with_reducible rfl))
    try simp only[Act.put,List.setIfInBounds_toArray,List.set_cons_zero,List.set_cons_succ]
    refine wpAnyH_take (i:=14) (v:=?_) A2 kR kR kR A3 (Or.inl ⟨rF,?_⟩) A4 ?_
    rotate_left 1
    ·(intro wS hSw;(try dsimp only at hSw);go_simp;try(with_reducible rfl))
    try simp only[Act.put,List.setIfInBounds_toArray,List.set_cons_zero,List.set_cons_succ]
    refine wpAnyH_take (i:=15) (v:=?_) A2 kR kR kR A3 (Or.inl ⟨rF,?_⟩) A4 ?_
    rotate_left 1
    ·(intro wS hSw;(try dsimp only at hSw);go_simp;try(with_reducible rfl))
    try simp only[Act.put,List.setIfInBounds_toArray,List.set_cons_zero,List.set_cons_succ]
    refine wpAnyH_done kR ?_ _;go_wp2;first|go_end0|(simp only[Exit.inBlock,Exit.then];refine bodyPost_ret (results_none rfl _ _ _) rfl ?_)|refine bodyPost_ret (results_none rfl _ _ _) rfl ?_
    exact⟨rfl,HPS.bel.drew,_,_,by rw[HR2.out];exact HPS.st.below (A7 _)⟩
   .have hdec:decide (x∈T.set)=false:=by simpa using hx
    have HR2:Hid (R=⟨T.set++[x],T.opens⟩):=by show _=_;rw[HR1.out,if_pos hx]
    rw[hdec]at v1;have HNX:Hid (x∉T.set):=hx;clear HR1 hx;obtain⟨V2,hV2⟩:=gA ((wc.setCell ⟨gi,x,none⟩ (.bool true)).drew.drew)
    have HV2:Hid ((wc.setCell ⟨gi,x,none⟩ (.bool true)).drew.drew=V2):=hV2;have hW2:WX E G C n gi vs1 vo1 V2 T.set T.opens (fun j=>if j=x then true else decide (j∈T.set)):=by rw[<-hV2];exact((HPS.st.x.put x true).below (A7 _)).below (A7 _)
    have hB2:Below E w V2:=by rw[<-hV2];exact(HPS.bel.setCell HPS.st.hgi _).drew.drew
    obtain⟨g,cap,w3,hr,hb3,c32,f32,hw3⟩:=IN hW2 (gH HOK.len hn) x;have HR3:Hid ((Builtin.append_ #[68,68] 68 #[vs1,.slice (some ⟨V2.heap.size,0,none⟩) 1 1]).run prog ((V2.alloc (.cells #[.int .i64 (x:Int)] 3)).drew)=.ok (.slice (some ⟨g,0,none⟩) (T.set.length+1) cap) w3):=hr;obtain⟨_,u1,_⟩:=HE.out V2 hB2;obtain⟨_,u3,_⟩:=HE.out w3 (hB2.trans hb3);have u2:=hW2.c2;have u4:(V2.alloc (.cells #[.int .i64 (x:Int)] 3)).cell? ⟨G,2,none⟩=some vs1:=kc (A0 _ _) u2;have nG3:G≠V2.heap.size:=by have:=hW2.g.lt;omega
    have nb3:b≠V2.heap.size:=by have:=hW2.g.lt;have:=hW2.hG;omega
    have HF:Hid (Below E w (w3.setCell ⟨G,2,none⟩ (.slice (some ⟨g,0,none⟩) (T.set.length+1) cap))/\WS E G C n gi (.slice (some ⟨g,0,none⟩) (T.set.length+1) cap) vo1 (w3.setCell ⟨G,2,none⟩ (.slice (some ⟨g,0,none⟩) (T.set.length+1) cap)) R):=by
     refine⟨(hB2.trans hb3).setCell hW2.hG _,?_⟩;rw[HR2.out];refine WX.st (s:=⟨T.set++[x],T.opens⟩) hw3 fun j _=>?_;by_cases hj:j=x
     .subst hj;simp
     .rw[if_neg hj];simp[hj]
    have i5:(0:Int)<=(x:Int):=oM;have i6:(x:Int)<(n:Int):=oM;clear hr hb3 hw3 hW2 hB2 hV2;go_wp2;refine rG (fun v=>v.cell? ⟨w.heap.size,0,none⟩=some (.int .i64 L0)/\v.cell? ⟨b,o+1,none⟩=some (.int .i64 (x:Int))/\v.cell? ⟨G,1,none⟩=some (.slice (some ⟨gi,0,none⟩) n n)/\v.cell? ⟨gi,x,none⟩=some (.bool false)) fun hJ=>?_;refine wpAnyH_take (i:=0) (v:=?_) A2 kR kR kR A3 (Or.inl ⟨rF,?_⟩) A4 ?_
    rotate_left 1
    ·(intro wS hSw;(try dsimp only at hSw);go_simp;try(with_reducible rfl))
    try simp only[Act.put,List.setIfInBounds_toArray,List.set_cons_zero,List.set_cons_succ]
    refine wpAnyH_take (i:=1) (v:=?_) A2 kR kR kR A3 (Or.inl ⟨rF,?_⟩) A4 ?_
    rotate_left 1
    ·(intro wS hSw;(try dsimp only at hSw);go_simp;try(with_reducible rfl))
    try simp only[Act.put,List.setIfInBounds_toArray,List.set_cons_zero,List.set_cons_succ]
    refine wpAnyH_take (i:=2) (v:=?_) A2 kR kR kR A3 (Or.inl ⟨rF,?_⟩) A4 ?_
    rotate_left 1
    ·(intro wS hSw;(try dsimp only at hSw);go_simp;try(with_reducible rfl))
    try simp only[Act.put,List.setIfInBounds_toArray,List.set_cons_zero,List.set_cons_succ]
    refine wpAnyH_take (i:=3) (v:=?_) A2 kR kR kR A3 (Or.inl ⟨rF,?_⟩) A4 ?_
    rotate_left 1
    ·(intro wS hSw;(try dsimp only at hSw);go_simp;try(with_reducible rfl))
    try simp only[Act.put,List.setIfInBounds_toArray,List.set_cons_zero,List.set_cons_succ]
    refine wpAnyH_take (i:=4) (v:=?_) A2 kR kR kR A3 (Or.inl ⟨rF,?_⟩) A4 ?_
    rotate_left 1
    ·(intro wS hSw;(try dsimp only at hSw);go_simp;try(with_reducible rfl))
    try simp only[Act.put,List.setIfInBounds_toArray,List.set_cons_zero,List.set_cons_succ]
    refine wpAnyH_take (i:=5) (v:=?_) A2 kR kR kR A3 (Or.inl ⟨rF,?_⟩) A4 ?_
    rotate_left 1
    ·(intro wS hSw;(try dsimp only at hSw);go_simp;try(with_reducible rfl))
    try simp only[Act.put,List.setIfInBounds_toArray,List.set_cons_zero,List.set_cons_succ]
    refine wpAnyH_take (i:=6) (v:=?_) A2 kR kR kR A3 (Or.inl ⟨rF,?_⟩) A4 ?_
    rotate_left 1
    ·(intro wS hSw;(try dsimp only at hSw);go_simp;try(with_reducible rfl))
    try simp only[Act.put,List.setIfInBounds_toArray,List.set_cons_zero,List.set_cons_succ]
    refine wpAnyH_take (i:=7) (v:=?_) A2 kR kR kR A3 (Or.inl ⟨rF,?_⟩) A4 ?_
    rotate_left 1
    ·(intro wS hSw;(try dsimp only at hSw);go_simp;try(with_reducible rfl))
    try simp only[Act.put,List.setIfInBounds_toArray,List.set_cons_zero,List.set_cons_succ]
    refine wpAnyH_take (i:=8) (v:=?_) A2 kR kR kR A3 (Or.inl ⟨rF,?_⟩) A4 ?_
    rotate_left 1
    ·(intro wS hSw;(try dsimp only at hSw);go_simp;try(with_reducible rfl))
    try simp only[Act.put,List.setIfInBounds_toArray,List.set_cons_zero,List.set_cons_succ]
    refine wpAnyH_take (i:=9) (v:=?_) A2 kR kR kR A3 (Or.inl ⟨rF,?_⟩) A4 ?_
    rotate_left 1
    ·(intro wS hSw;(try dsimp only at hSw);go_simp;try(with_reducible rfl))
    try simp only[Act.put,List.setIfInBounds_toArray,List.set_cons_zero,List.set_cons_succ]
    refine wpAnyH_take (i:=10) (v:=?_) A2 kR kR kR A3 (Or.inl ⟨rF,?_⟩) A4 ?_
    rotate_left 1
    ·(intro wS hSw;(try dsimp only at hSw);go_simp;try(with_reducible rfl))
    try simp only[Act.put,List.setIfInBounds_toArray,List.set_cons_zero,List.set_cons_succ]
    refine wpAnyH_take (i:=11) (v:=?_) A2 kR kR kR A3 (Or.inl ⟨rF,?_⟩) A4 ?_
    rotate_left 1
    ·(intro wS hSw;(try dsimp only at hSw);go_simp;try(with_reducible rfl))
    try simp only[Act.put,List.setIfInBounds_toArray,List.set_cons_zero,List.set_cons_succ]
    refine wpAnyH_take (i:=12) (v:=?_) A2 kR kR kR A3 (Or.inl ⟨rF,?_⟩) A4 ?_
    rotate_left 1
    ·(intro wS hSw;(try dsimp only at hSw);go_simp;try(with_reducible rfl))
    try simp only[Act.put,List.setIfInBounds_toArray,List.set_cons_zero,List.set_cons_succ]
    refine wpAnyH_take (i:=13) (v:=?_) A2 kR kR kR A3 (Or.inl ⟨rF,?_⟩) A4 ?_
    rotate_left 1
    ·(intro wS hSw;(try dsimp only at hSw);go_simp;try(with_reducible rfl))
    try simp only[Act.put,List.setIfInBounds_toArray,List.set_cons_zero,List.set_cons_succ]
    refine wpAnyH_take (i:=14) (v:=?_) A2 kR kR kR A3 (Or.inl ⟨rF,?_⟩) A4 ?_
    rotate_left 1
    ·(intro wS hSw;(try dsimp only at hSw);go_simp;try(with_reducible rfl))
    try simp only[Act.put,List.setIfInBounds_toArray,List.set_cons_zero,List.set_cons_succ]
    refine wpAnyH_take (i:=15) (v:=?_) A2 kR kR kR A3 (Or.inl ⟨rF,?_⟩) A4 ?_
    rotate_left 1
    ·(intro wS hSw;(try dsimp only at hSw);go_simp;try(with_reducible rfl))
    try simp only[Act.put,List.setIfInBounds_toArray,List.set_cons_zero,List.set_cons_succ]
    refine wpAnyH_done kR ?_ _;go_wp2;refine rG (fun v=>v.cell? ⟨b,o+1,none⟩=some (.int .i64 (x:Int))/\v.cell? ⟨G,1,none⟩=some (.slice (some ⟨gi,0,none⟩) n n)) fun hJ=>?_;refine wpAnyH_take (i:=0) (v:=?_) A2 kR kR kR A3 (Or.inl ⟨rF,?_⟩) A4 ?_
    rotate_left 1
    ·(intro wS hSw;(try dsimp only at hSw);go_simp;try(with_reducible rfl))
    try simp only[Act.put,List.setIfInBounds_toArray,List.set_cons_zero,List.set_cons_succ]
    refine wpAnyH_take (i:=1) (v:=?_) A2 kR kR kR A3 (Or.inl ⟨rF,?_⟩) A4 ?_
    rotate_left 1
    ·(intro wS hSw;(try dsimp only at hSw);go_simp;try(with_reducible rfl))
    try simp only[Act.put,List.setIfInBounds_toArray,List.set_cons_zero,List.set_cons_succ]
    refine wpAnyH_take (i:=2) (v:=?_) A2 kR kR kR A3 (Or.inl ⟨rF,?_⟩) A4 ?_
    rotate_left 1
    ·(intro wS hSw;(try dsimp only at hSw);go_simp;try(with_reducible rfl))
    try simp only[Act.put,List.setIfInBounds_toArray,List.set_cons_zero,List.set_cons_succ]
    refine wpAnyH_take (i:=3) (v:=?_) A2 kR kR kR A3 (Or.inl ⟨rF,?_⟩) A4 ?_
    rotate_left 1
    ·(intro wS hSw;(try dsimp only at hSw);go_simp;try(with_reducible rfl))
    try simp only[Act.put,List.setIfInBounds_toArray,List.set_cons_zero,List.set_cons_succ]
    refine wpAnyH_take (i:=4) (v:=?_) A2 kR kR kR A3 (Or.inl ⟨rF,?_⟩) A4 ?_
    rotate_left 1
    ·(intro wS hSw;(try dsimp only at hSw);go_simp;try(with_reducible rfl))
    try simp only[Act.put,List.setIfInBounds_toArray,List.set_cons_zero,List.set_cons_succ]
    refine wpAnyH_take (i:=5) (v:=?_) A2 kR kR kR A3 (Or.inl ⟨rF,?_⟩) A4 ?_
    rotate_left 1
    ·(intro wS hSw;(try dsimp only at hSw);go_simp;try(with_reducible rfl))
    try simp only[Act.put,List.setIfInBounds_toArray,List.set_cons_zero,List.set_cons_succ]
    refine wpAnyH_take (i:=6) (v:=?_) A2 kR kR kR A3 (Or.inl ⟨rF,?_⟩) A4 ?_
    rotate_left 1
    ·(intro wS hSw;(try dsimp only at hSw);go_simp;try(with_reducible rfl))
    try simp only[Act.put,List.setIfInBounds_toArray,List.set_cons_zero,List.set_cons_succ]
    refine wpAnyH_take (i:=7) (v:=?_) A2 kR kR kR A3 (Or.inl ⟨rF,?_⟩) A4 ?_
    rotate_left 1
    ·(intro wS hSw;(try dsimp only at hSw);go_simp;try(with_reducible rfl))
    try simp only[Act.put,List.setIfInBounds_toArray,List.set_cons_zero,List.set_cons_succ]
    refine wpAnyH_take (i:=8) (v:=?_) A2 kR kR kR A3 (Or.inl ⟨rF,?_⟩) A4 ?_
    rotate_left 1
    ·(intro wS hSw;(try dsimp only at hSw);go_simp;try(with_reducible rfl))
    try simp only[Act.put,List.setIfInBounds_toArray,List.set_cons_zero,List.set_cons_succ]
    clear hJ;refine AH 9 fun K hK=>?_;go_simp;refine AJ hK fun hJ=>?_;clear hK K;refine wpAnyH_done kR ?_ _;go_wp2;rw[HV2.out];refine rG (fun v=>v.cell? ⟨b,o+1,none⟩=some (.int .i64 (x:Int))) fun hJ=>?_;refine wpAnyH_take (i:=0) (v:=?_) A2 kR kR kR A3 (Or.inl ⟨rF,?_⟩) A4 ?_
    rotate_left 1
    ·(intro wS hSw;(try dsimp only at hSw);go_simp;try(with_reducible rfl))
    try simp only[Act.put,List.setIfInBounds_toArray,List.set_cons_zero,List.set_cons_succ]
    refine wpAnyH_take (i:=1) (v:=?_) A2 kR kR kR A3 (Or.inl ⟨rF,?_⟩) A4 ?_
    rotate_left 1
    ·(intro wS hSw;(try dsimp only at hSw);go_simp;try(with_reducible rfl))
    try simp only[Act.put,List.setIfInBounds_toArray,List.set_cons_zero,List.set_cons_succ]
    refine wpAnyH_take (i:=2) (v:=?_) A2 kR kR kR A3 (Or.inl ⟨rF,?_⟩) A4 ?_
    rotate_left 1
    ·(intro wS hSw;(try dsimp only at hSw);go_simp;try(with_reducible rfl))
    try simp only[Act.put,List.setIfInBounds_toArray,List.set_cons_zero,List.set_cons_succ]
    refine wpAnyH_take (i:=3) (v:=?_) A2 kR kR kR A3 (Or.inl ⟨rF,?_⟩) A4 ?_
    rotate_left 1
    ·(intro wS hSw;(try dsimp only at hSw);go_simp;try(with_reducible rfl))
    try simp only[Act.put,List.setIfInBounds_toArray,List.set_cons_zero,List.set_cons_succ]
    refine wpAnyH_take (i:=5) (v:=?_) A2 kR kR kR A3 (Or.inl ⟨rF,?_⟩) A4 ?_
    rotate_left 1
    ·(intro wS hSw;(try dsimp only at hSw);go_simp;try(with_reducible rfl))
    try simp only[Act.put,List.setIfInBounds_toArray,List.set_cons_zero,List.set_cons_succ]
    refine wpAnyH_take (i:=6) (v:=?_) A2 kR kR kR A3 (Or.inl ⟨rF,?_⟩) A4 ?_
    rotate_left 1
    ·(intro wS hSw;(try dsimp only at hSw);go_simp;try(with_reducible rfl))
    try simp only[Act.put,List.setIfInBounds_toArray,List.set_cons_zero,List.set_cons_succ]
    refine wpAnyH_take (i:=7) (v:=?_) A2 kR kR kR A3 (Or.inl ⟨rF,?_⟩) A4 ?_
    rotate_left 1
    ·(intro wS hSw;(try dsimp only at hSw);go_simp;try(with_reducible rfl))
    try simp only[Act.put,List.setIfInBounds_toArray,List.set_cons_zero,List.set_cons_succ]
    refine wpAnyH_take (i:=8) (v:=?_) A2 kR kR kR A3 (Or.inl ⟨rF,?_⟩) A4 ?_
    rotate_left 1
    ·(intro wS hSw;(try dsimp only at hSw);go_simp;try(with_reducible rfl))
    try simp only[Act.put,List.setIfInBounds_toArray,List.set_cons_zero,List.set_cons_succ]
    clear hJ;refine wpAnyH_ready (rs:=[4,9]) kR sM ?_;refine KX 4 (fun K hK=>?_) ?_
    .go_simp;refine AJ hK fun hJ=>?_;clear hK K;clear hJ;refine AH 9 fun K hK=>?_;exact LB
    refine KX 9 (fun K hK=>?_) AllReadyH.nil;go_simp;refine AJ hK fun hJ=>?_;clear hK K;clear hJ;refine AH 4 fun K hK=>?_;exact LB
theorem Fy(op:Int)(h:An op=false)(w:World):Calls prog 42 #[.int .i64 op] w fun e w'=>e=.returned (.tuple #[Bi ⟨0,0,0,0,0⟩,.bool false])/\Below w.heap.size w w':=by
 have hh:op<1\/37<op:=by unfold An at h;simp at h;omega
 have e1:(op==1)=false:=by have:op≠1:=oM;simpa using this
 have e2:(op==2)=false:=by have:op≠2:=oM;simpa using this
 have e3:(op==3)=false:=by have:op≠3:=oM;simpa using this
 have e4:(op==4)=false:=by have:op≠4:=oM;simpa using this
 have e5:(op==5)=false:=by have:op≠5:=oM;simpa using this
 have e6:(op==6)=false:=by have:op≠6:=oM;simpa using this
 have e7:(op==7)=false:=by have:op≠7:=oM;simpa using this
 have e8:(op==8)=false:=by have:op≠8:=oM;simpa using this
 have e9:(op==9)=false:=by have:op≠9:=oM;simpa using this
 have e10:(op==10)=false:=by have:op≠10:=oM;simpa using this
 have e11:(op==11)=false:=by have:op≠11:=oM;simpa using this
 have e12:(op==12)=false:=by have:op≠12:=oM;simpa using this
 have e13:(op==13)=false:=by have:op≠13:=oM;simpa using this
 have e14:(op==14)=false:=by have:op≠14:=oM;simpa using this
 have e15:(op==15)=false:=by have:op≠15:=oM;simpa using this
 have e16:(op==16)=false:=by have:op≠16:=oM;simpa using this
 have e17:(op==17)=false:=by have:op≠17:=oM;simpa using this
 have e18:(op==18)=false:=by have:op≠18:=oM;simpa using this
 have e19:(op==19)=false:=by have:op≠19:=oM;simpa using this
 have e20:(op==20)=false:=by have:op≠20:=oM;simpa using this
 have e21:(op==21)=false:=by have:op≠21:=oM;simpa using this
 have e22:(op==22)=false:=by have:op≠22:=oM;simpa using this
 have e23:(op==23)=false:=by have:op≠23:=oM;simpa using this
 have e24:(op==24)=false:=by have:op≠24:=oM;simpa using this
 have e25:(op==25)=false:=by have:op≠25:=oM;simpa using this
 have e26:(op==26)=false:=by have:op≠26:=oM;simpa using this
 have e27:(op==27)=false:=by have:op≠27:=oM;simpa using this
 have e28:(op==28)=false:=by have:op≠28:=oM;simpa using this
 have e29:(op==29)=false:=by have:op≠29:=oM;simpa using this
 have e30:(op==30)=false:=by have:op≠30:=oM;simpa using this
 have e31:(op==31)=false:=by have:op≠31:=oM;simpa using this
 have e32:(op==32)=false:=by have:op≠32:=oM;simpa using this
 have e33:(op==33)=false:=by have:op≠33:=oM;simpa using this
 have e34:(op==34)=false:=by have:op≠34:=oM;simpa using this
 have e35:(op==35)=false:=by have:op≠35:=oM;simpa using this
 have e36:(op==36)=false:=by have:op≠36:=oM;simpa using this
 have e37:(op==37)=false:=by have:op≠37:=oM;simpa using this
 clear hh h;exact BQ
theorem CP(op:Int)(h:An op=false):Aa op=⟨0,0,0,0,0⟩:=by
 have hh:op<1\/37<op:=by unfold An at h;simp at h;omega
 unfold Aa
 repeat rw[if_neg oM]
theorem GN(op:Int)(w:World):Calls prog 42 #[.int .i64 op] w fun e w'=>e=.returned (.tuple #[Bi (Aa op),.bool (An op)])/\Below w.heap.size w w':=by
 by_cases h:An op=false
 .rw[h,CP op h];exact Fy op h w
 .have hh:1<=op/\op<=37:=by unfold An at h;simp at h;omega
  rw[show An op=true by simpa using h];clear h;by_cases k1:op=1
  .subst k1;exact Je w
  by_cases k2:op=2
  .subst k2;exact Jf w
  by_cases k3:op=3
  .subst k3;exact Jg w
  by_cases k4:op=4
  .subst k4;exact Jh w
  by_cases k5:op=5
  .subst k5;exact Ji w
  by_cases k6:op=6
  .subst k6;exact Jj w
  by_cases k7:op=7
  .subst k7;exact Jk w
  by_cases k8:op=8
  .subst k8;exact Jl w
  by_cases k9:op=9
  .subst k9;exact Jm w
  by_cases k10:op=10
  .subst k10;exact Hq w
  by_cases k11:op=11
  .subst k11;exact Hr w
  by_cases k12:op=12
  .subst k12;exact Hs w
  by_cases k13:op=13
  .subst k13;exact Ht w
  by_cases k14:op=14
  .subst k14;exact Hu w
  by_cases k15:op=15
  .subst k15;exact Hv w
  by_cases k16:op=16
  .subst k16;exact Hw w
  by_cases k17:op=17
  .subst k17;exact Hx w
  by_cases k18:op=18
  .subst k18;exact Hy w
  by_cases k19:op=19
  .subst k19;exact Hz w
  by_cases k20:op=20
  .subst k20;exact HG w
  by_cases k21:op=21
  .subst k21;exact HH w
  by_cases k22:op=22
  .subst k22;exact HI w
  by_cases k23:op=23
  .subst k23;exact HY w
  by_cases k24:op=24
  .subst k24;exact I0 w
  by_cases k25:op=25
  .subst k25;exact I1 w
  by_cases k26:op=26
  .subst k26;exact I2 w
  by_cases k27:op=27
  .subst k27;exact I3 w
  by_cases k28:op=28
  .subst k28;exact I4 w
  by_cases k29:op=29
  .subst k29;exact I5 w
  by_cases k30:op=30
  .subst k30;exact I6 w
  by_cases k31:op=31
  .subst k31;exact I7 w
  by_cases k32:op=32
  .subst k32;exact I8 w
  by_cases k33:op=33
  .subst k33;exact I9 w
  by_cases k34:op=34
  .subst k34;exact Ia w
  by_cases k35:op=35
  .subst k35;exact Ib w
  by_cases k36:op=36
  .subst k36;exact Ic w
  by_cases k37:op=37
  .subst k37;exact Ie w
  omega
theorem Ih{op:Int}(h:(Aa op).n=9):((op=29\/op=30)/\(Aa op).d=3)\/(op=31/\(Aa op).d=0/\(Aa op).a=3):=by
 have CC:∀k:Fin 38,(Aa (k.val:Int)).n=9->k.val=29\/k.val=30\/k.val=31:=by decide+kernel
 by_cases hk:An op=true
 .have hh:1<=op/\op<=37:=by unfold An at hk;simp at hk;exact hk
  have e:((⟨op.toNat,oM⟩:Fin 38).val:Int)=op:=by show((op.toNat:Nat):Int)=op;omega
  have:=CC ⟨op.toNat,oM⟩ (by rw[e];exact h);simp only at this;rcases this with h1|h1|h1
  .have:op=29:=oM;subst this;exact .inl ⟨.inl rfl,rfl⟩
  .have:op=30:=oM;subst this;exact .inl ⟨.inr rfl,rfl⟩
  .have:op=31:=oM;subst this;exact .inr ⟨rfl,rfl,rfl⟩
 .rw[CP op (by simpa using hk)]at h;exact absurd h dE
theorem DC{c:Cd}{n:Int}{m:Ty}(ht:Ac c=true)(h:A8 c.regs 3 n m=true):Ab (Ag c.regs n).par c.sign.length=true:=by
 unfold A8 at h;rw[if_neg dE]at h;simp only[Bool.and_eq_true]at h;obtain⟨h1,h2⟩:=h;obtain⟨k,hk,hl⟩:=Bu h1;rw[BL hk hl]at h2 |-;have hm:c.regs[k].kind=3:=by
  unfold Ca at h2;rw[if_neg dE,if_neg dE,if_pos rfl]at h2;simpa using h2
 have:=List.all_eq_true.1 ht c.regs[k] (gD hl);unfold Aj at this;rw[if_neg oM,if_pos hm]at this;exact this
theorem GC{c:Cd}{i:Av}(ht:Ac c=true)(hd:A8 c.regs (Aa i.op).d i.d (Al c.regs i (Aa i.op))=true)(ha:A8 c.regs (Aa i.op).a i.a (Al c.regs i (Aa i.op))=true)(h9:(Aa i.op).n=9):Ab (Al c.regs i (Aa i.op)).par c.sign.length=true:=by
 rcases Ih h9 with⟨_,e⟩|⟨_,e,e2⟩
 .rw[e]at hd;have:=DC ht hd;unfold Al EB;rw[e,if_neg dE];exact this
 .rw[e2]at ha;have:=DC ht ha;unfold Al EB;rw[e,if_pos rfl];exact this
theorem Ho{c:Cd}{i:Av}{r:Rw}(h:AG c i r=true):∀x∈AC i r,0<=x/\x<(c.regs.length:Int):=by
 intro x hx;unfold AC at hx;rcases List.mem_append.1 hx with hx|hx
 .by_cases e:r.a=0
  .rw[if_pos e]at hx;cases hx
  .rw[if_neg e]at hx;simp at hx;subst hx;exact AN (FI h) e
 rcases List.mem_append.1 hx with hx|hx
 .by_cases e:r.b=0
  .rw[if_pos e]at hx;cases hx
  .rw[if_neg e]at hx;simp at hx;subst hx;exact AN (FJ h) e
 .by_cases e:r.c=0
  .rw[if_pos e]at hx;cases hx
  .rw[if_neg e]at hx;simp at hx;subst hx;exact AN (FK h) e
theorem GK(i:Av)(r:Rw):(AC i r).length<=3:=by
 rw[CK];simp only[List.length_append];have:=D6 r.a i.a;have:=D6 r.b i.b;have:=D6 r.c i.c;omega
theorem EQ{c:Cd}{s:Wk}{i:Av}{r:Rw}(h:Aq c s i r=true)(e:i.op=35\/i.op=37):s.opens≠[]:=by
 unfold Aq at h;rw[if_neg oM]at h;intro hO;rcases e with e|e
 .rw[if_pos e,hO]at h;simp at h
 .rw[if_neg oM,if_pos e]at h;unfold Ar at h;rw[hO]at h;cases h
structure TK(w:World)(H G C:Nat)(L0 L1 L2 L3 L4:Int)(v:World):Prop where
 bel:Below w.heap.size w v
 r0:v.cell? ⟨H,0,none⟩=some (.int .i64 L0)
 r1:v.cell? ⟨H,1,none⟩=some (.int .i64 L1)
 r2:v.cell? ⟨H,2,none⟩=some (.int .i64 L2)
 r3:v.cell? ⟨H,3,none⟩=some (.int .i64 L3)
 r4:v.cell? ⟨H,4,none⟩=some (.int .i64 L4)
 g0:v.cell? ⟨G,0,none⟩=some (.pointer (some ⟨C,0,none⟩))
theorem TK.next{w:World}{H G C:Nat}{L0 L1 L2 L3 L4:Int}{v v':World}(h:TK w H G C L0 L1 L2 L3 L4 v)(k:Below v.heap.size v v'):TK w H G C L0 L1 L2 L3 L4 v':=
 ⟨Go.Proofs.Ytjglaibglofddaa.bel h.bel k,kc k h.r0,kc k h.r1,kc k h.r2,kc k h.r3,kc k h.r4,kc k h.g0⟩
theorem ET(E G C n gi:Nat)(vs vo:Value)(s:Wk)(v0 v1 v2 v3:Value)(c:Cd)(hk:AI c)(b o:Nat)(i:Av)(w:World)(h:WS E G C n gi vs vo w s)(hnn:c.regs.length=n)(ok:BB n s)(hn:n<=16384)(hc:AF w C v0 v1 v2 v3 c)(hi:Ai w b o (Ci i))(hbE:b<E)(htm:Ac c=true)(hb0:0<=i.bits)(hb1:i.bits<4294967296):
 Calls prog 29 #[.pointer (some ⟨G,0,none⟩),.pointer (some ⟨b,o,none⟩)] w fun e w'=>e=.returned (.bool (AD c s i))/\Below E w w'/\(AD c s i=true->∃vs' vo',WS E G C n gi vs' vo' w' (Am s i)):=by
 have K1:=GN i.op w;have K2:=fun v h1 h2=>Ha C v0 v1 v2 v3 c hk b o i (Aa i.op) v h1 h2 hb0 hb1 (GC htm);have K3:=fun v h1 h2 h3=>E9 E G C n gi vs vo s v0 v1 v2 v3 c hk b o i (Aa i.op) v h1 ok.nest h2 h3;have K4:=fun v h1=>Fv b o i (Aa i.op) v h1;have K5:=fun(hf:AG c i (Aa i.op)=true) (hs:Aq c s i (Aa i.op)=true) v h1 h2=>Hm E G C n gi vs vo s b o i (Aa i.op) v h1 ok hn h2 hbE (Cy hs) (EQ hs) (fun hd=>by have:=AN (E6 hf) hd;rw[hnn]at this;exact this);have KL:AG c i (Aa i.op)=true->∀x∈AC i (Aa i.op),0<=x/\x<(n:Int):=fun hf=>by have:=Ho hf;rw[hnn]at this;exact this
 have KN:=GK i (Aa i.op);have HC0:Hid (AF w C v0 v1 v2 v3 c):=hc;have HI0:Hid (Ai w b o (Ci i)):=hi;have HS0:Hid (WS E G C n gi vs vo w s):=h;have e0:=hi.at 0 rfl;rw[Nat.add_zero]at e0;have hE:=h.lt;have g0:=h.c0;unfold AD Am;have hro:D7 s i (Aa i.op)=(AC i (Aa i.op)).all fun n=>decide (n.toNat∈s.set):=rfl;rw[hro];obtain⟨op,hop⟩:∃x,i.op=x:=⟨_,rfl⟩
 rw[hop]at K1 K2 K3 K4 K5 KL KN e0 |-;obtain⟨r,hr⟩:=gA (Aa op)
 simp only[hr]at K1 K2 K3 K4 K5 KL KN |-;obtain⟨X0,hX0⟩:∃X,An op=X:=⟨_,rfl⟩
 obtain⟨X1,hX1⟩:∃X,AG c i r=X:=⟨_,rfl⟩
 obtain⟨X2,hX2⟩:∃X,Aq c s i r=X:=⟨_,rfl⟩
 obtain⟨RL,hRL⟩:∃X,AC i r=X:=⟨_,rfl⟩
 obtain⟨Z,hZ⟩:=gA (DA s i r)
 obtain⟨AL,hAL⟩:∃X,((AC i r).all fun n=>decide (n.toNat∈s.set))=X:=⟨_,rfl⟩
 rw[hAL];simp only[hX0]at K1 |-;simp only[hX1]at K2 K5 KL |-;simp only[hX2]at K3 K5 |-;simp only[hRL]at K4 KL KN;rw[hRL]at hAL;have HAL:Hid ((RL.all fun n=>decide (n.toNat∈s.set))=AL):=hAL;simp only[hZ]at K5 |-;obtain⟨L0,L1,L2,L3,L4⟩:=r;unfold Bi at K1 K2 K3 K4 K5;simp only at K1 K2 K3 K4 K5;have HK1:Hid (Calls prog 42 #[.int .i64 op] w fun e w'=>e=.returned (.tuple #[.agg #[.int .i64 L0,.int .i64 L1,.int .i64 L2,.int .i64 L3,.int .i64 L4],.bool X0])/\Below w.heap.size w w'):=K1;have HK2:Hid (∀v,AF v C v0 v1 v2 v3 c->Ai v b o (Ci i)->Calls prog 43 #[.pointer (some ⟨C,0,none⟩),.pointer (some ⟨b,o,none⟩),.agg #[.int .i64 L0,.int .i64 L1,.int .i64 L2,.int .i64 L3,.int .i64 L4]] v fun e w'=>e=.returned (.bool X1)/\Below v.heap.size v w'):=K2;have HK3:Hid (∀v,WS E G C n gi vs vo v s->AF v C v0 v1 v2 v3 c->Ai v b o (Ci i)->Calls prog 44 #[.pointer (some ⟨G,0,none⟩),.pointer (some ⟨b,o,none⟩),.agg #[.int .i64 L0,.int .i64 L1,.int .i64 L2,.int .i64 L3,.int .i64 L4]] v fun e w'=>e=.returned (.bool X2)/\Below v.heap.size v w'):=K3;have HK4:Hid (∀v,Ai v b o (Ci i)->Calls prog 45 #[.agg #[.int .i64 L0,.int .i64 L1,.int .i64 L2,.int .i64 L3,.int .i64 L4],.pointer (some ⟨b,o,none⟩)] v fun e w'=>∃u,e=.returned u/\w'.ownsRow v.heap.size 3 1 u RL.length (Bb RL)/\Below v.heap.size v w'):=K4;have HK5:Hid (X1=true->X2=true->∀v,WS E G C n gi vs vo v s->Ai v b o (Ci i)->Calls prog 46 #[.pointer (some ⟨G,0,none⟩),.pointer (some ⟨b,o,none⟩),.agg #[.int .i64 L0,.int .i64 L1,.int .i64 L2,.int .i64 L3,.int .i64 L4]] v fun e w'=>e=.returned (.tuple #[])/\Below E v w'/\∃vs' vo',WS E G C n gi vs' vo' w' Z):=K5;have HKL:Hid (X1=true->∀x∈RL,0<=x/\x<(n:Int)):=KL;clear K1 K2 K3 K4 K5 KL h hc hi hk hro hop hr hX0 hX1 hX2 hRL hZ hAL hb0 hb1 htm ok hnn;cases X0
 .go_enter func29,ntmps29;go_wp2_with(go_at_call 42;refine HK1.mono ?_;rintro e w1 ⟨rfl,hw1⟩;have HT:Hid (TK w w1.heap.size G C L0 L1 L2 L3 L4 (w1.alloc (.cells #[.int .i64 L0,.int .i64 L1,.int .i64 L2,.int .i64 L3,.int .i64 L4] 89))):=KK);have HCX:Hid (∀v,Below (w1.alloc (.cells #[.int .i64 L0,.int .i64 L1,.int .i64 L2,.int .i64 L3,.int .i64 L4] 89)).heap.size (w1.alloc (.cells #[.int .i64 L0,.int .i64 L1,.int .i64 L2,.int .i64 L3,.int .i64 L4] 89)) v->v.cell? ⟨G,0,none⟩=some (.pointer (some ⟨C,0,none⟩))/\v.cell? ⟨w1.heap.size,0,none⟩=some (.int .i64 L0)/\v.cell? ⟨w1.heap.size,1,none⟩=some (.int .i64 L1)/\v.cell? ⟨w1.heap.size,2,none⟩=some (.int .i64 L2)/\v.cell? ⟨w1.heap.size,3,none⟩=some (.int .i64 L3)/\v.cell? ⟨w1.heap.size,4,none⟩=some (.int .i64 L4)):=fun v hv=>⟨(HT.next hv).g0,(HT.next hv).r0,(HT.next hv).r1,(HT.next hv).r2,(HT.next hv).r3,(HT.next hv).r4⟩;obtain⟨t0,t1,t2,t3,t4,t5⟩:=HCX.out _ (BC _);refine rG (fun v=>v.cell? ⟨G,0,none⟩=some (.pointer (some ⟨C,0,none⟩))/\v.cell? ⟨w1.heap.size,0,none⟩=some (.int .i64 L0)/\v.cell? ⟨w1.heap.size,1,none⟩=some (.int .i64 L1)/\v.cell? ⟨w1.heap.size,2,none⟩=some (.int .i64 L2)/\v.cell? ⟨w1.heap.size,3,none⟩=some (.int .i64 L3)/\v.cell? ⟨w1.heap.size,4,none⟩=some (.int .i64 L4)) fun hJ=>?_;refine wpAnyH_take (i:=0) (v:=?_) A2 kR kR kR A3 (Or.inl ⟨rF,?_⟩) A4 ?_
  rotate_left 1
  ·(intro wS hSw;(try dsimp only at hSw);go_simp;try(with_reducible rfl))
  try simp only[Act.put,List.setIfInBounds_toArray,List.set_cons_zero,List.set_cons_succ]
  refine wpAnyH_take (i:=1) (v:=?_) A2 kR kR kR A3 (Or.inl ⟨rF,?_⟩) A4 ?_
  rotate_left 1
  ·(intro wS hSw;(try dsimp only at hSw);go_simp;try(with_reducible rfl))
  try simp only[Act.put,List.setIfInBounds_toArray,List.set_cons_zero,List.set_cons_succ]
  refine wpAnyH_take (i:=2) (v:=?_) A2 kR kR kR A3 (Or.inl ⟨rF,?_⟩) A4 ?_
  rotate_left 1
  ·(intro wS hSw;(try dsimp only at hSw);go_simp;try(with_reducible rfl))
  try simp only[Act.put,List.setIfInBounds_toArray,List.set_cons_zero,List.set_cons_succ]
  refine wpAnyH_take (i:=3) (v:=undef) A2 kR kR kR A3 (Or.inr ⟨rF,rfl⟩) A4 ?_;try simp only[Act.put,List.setIfInBounds_toArray,List.set_cons_zero,List.set_cons_succ]
  refine wpAnyH_take (i:=4) (v:=undef) A2 kR kR kR A3 (Or.inr ⟨rF,rfl⟩) A4 ?_;try simp only[Act.put,List.setIfInBounds_toArray,List.set_cons_zero,List.set_cons_succ]
  refine wpAnyH_take (i:=5) (v:=undef) A2 kR kR kR A3 (Or.inr ⟨rF,rfl⟩) A4 ?_;try simp only[Act.put,List.setIfInBounds_toArray,List.set_cons_zero,List.set_cons_succ]
  refine wpAnyH_take (i:=6) (v:=undef) A2 kR kR kR A3 (Or.inr ⟨rF,rfl⟩) A4 ?_;try simp only[Act.put,List.setIfInBounds_toArray,List.set_cons_zero,List.set_cons_succ]
  refine wpAnyH_take (i:=7) (v:=undef) A2 kR kR kR A3 (Or.inr ⟨rF,rfl⟩) A4 ?_;try simp only[Act.put,List.setIfInBounds_toArray,List.set_cons_zero,List.set_cons_succ]
  refine wpAnyH_take (i:=8) (v:=undef) A2 kR kR kR A3 (Or.inr ⟨rF,rfl⟩) A4 ?_;try simp only[Act.put,List.setIfInBounds_toArray,List.set_cons_zero,List.set_cons_succ]
  refine wpAnyH_take (i:=9) (v:=undef) A2 kR kR kR A3 (Or.inr ⟨rF,rfl⟩) A4 ?_;try simp only[Act.put,List.setIfInBounds_toArray,List.set_cons_zero,List.set_cons_succ]
  refine wpAnyH_take (i:=10) (v:=undef) A2 kR kR kR A3 (Or.inr ⟨rF,rfl⟩) A4 ?_;try simp only[Act.put,List.setIfInBounds_toArray,List.set_cons_zero,List.set_cons_succ]
  refine wpAnyH_take (i:=11) (v:=?_) A2 kR kR kR A3 (Or.inl ⟨rF,?_⟩) A4 ?_
  rotate_left 1
  ·(intro wS hSw;(try dsimp only at hSw);go_simp;try(with_reducible rfl))
  try simp only[Act.put,List.setIfInBounds_toArray,List.set_cons_zero,List.set_cons_succ]
  refine wpAnyH_take (i:=12) (v:=?_) A2 kR kR kR A3 (Or.inl ⟨rF,?_⟩) A4 ?_
  rotate_left 1
  ·(intro wS hSw;(try dsimp only at hSw);go_simp;try(with_reducible rfl))
  try simp only[Act.put,List.setIfInBounds_toArray,List.set_cons_zero,List.set_cons_succ]
  refine wpAnyH_take (i:=13) (v:=undef) A2 kR kR kR A3 (Or.inr ⟨rF,rfl⟩) A4 ?_;try simp only[Act.put,List.setIfInBounds_toArray,List.set_cons_zero,List.set_cons_succ]
  refine wpAnyH_take (i:=14) (v:=undef) A2 kR kR kR A3 (Or.inr ⟨rF,rfl⟩) A4 ?_;try simp only[Act.put,List.setIfInBounds_toArray,List.set_cons_zero,List.set_cons_succ]
  refine wpAnyH_take (i:=15) (v:=undef) A2 kR kR kR A3 (Or.inr ⟨rF,rfl⟩) A4 ?_;try simp only[Act.put,List.setIfInBounds_toArray,List.set_cons_zero,List.set_cons_succ]
  refine wpAnyH_take (i:=16) (v:=undef) A2 kR kR kR A3 (Or.inr ⟨rF,rfl⟩) A4 ?_;try simp only[Act.put,List.setIfInBounds_toArray,List.set_cons_zero,List.set_cons_succ]
  refine wpAnyH_take (i:=17) (v:=undef) A2 kR kR kR A3 (Or.inr ⟨rF,rfl⟩) A4 ?_;try simp only[Act.put,List.setIfInBounds_toArray,List.set_cons_zero,List.set_cons_succ]
  refine wpAnyH_take (i:=18) (v:=?_) A2 kR kR kR A3 (Or.inl ⟨rF,?_⟩) A4 ?_
  rotate_left 1
  ·(intro wS hSw;(try dsimp only at hSw);go_simp;try(with_reducible rfl))
  try simp only[Act.put,List.setIfInBounds_toArray,List.set_cons_zero,List.set_cons_succ]
  refine wpAnyH_done kR ?_ _;go_wp2;go_ret;exact⟨rfl,(bel HT.bel (A7 _)).mono hE,fun e=>absurd e sM⟩
 cases X1
 .go_enter func29,ntmps29;go_wp2_with(go_at_call 42;refine HK1.mono ?_;rintro e w1 ⟨rfl,hw1⟩;have HT:Hid (TK w w1.heap.size G C L0 L1 L2 L3 L4 (w1.alloc (.cells #[.int .i64 L0,.int .i64 L1,.int .i64 L2,.int .i64 L3,.int .i64 L4] 89))):=KK);have HCX:Hid (∀v,Below (w1.alloc (.cells #[.int .i64 L0,.int .i64 L1,.int .i64 L2,.int .i64 L3,.int .i64 L4] 89)).heap.size (w1.alloc (.cells #[.int .i64 L0,.int .i64 L1,.int .i64 L2,.int .i64 L3,.int .i64 L4] 89)) v->v.cell? ⟨G,0,none⟩=some (.pointer (some ⟨C,0,none⟩))/\v.cell? ⟨w1.heap.size,0,none⟩=some (.int .i64 L0)/\v.cell? ⟨w1.heap.size,1,none⟩=some (.int .i64 L1)/\v.cell? ⟨w1.heap.size,2,none⟩=some (.int .i64 L2)/\v.cell? ⟨w1.heap.size,3,none⟩=some (.int .i64 L3)/\v.cell? ⟨w1.heap.size,4,none⟩=some (.int .i64 L4)):=fun v hv=>⟨(HT.next hv).g0,(HT.next hv).r0,(HT.next hv).r1,(HT.next hv).r2,(HT.next hv).r3,(HT.next hv).r4⟩;obtain⟨t0,t1,t2,t3,t4,t5⟩:=HCX.out _ (BC _);refine rG (fun v=>v.cell? ⟨G,0,none⟩=some (.pointer (some ⟨C,0,none⟩))/\v.cell? ⟨w1.heap.size,0,none⟩=some (.int .i64 L0)/\v.cell? ⟨w1.heap.size,1,none⟩=some (.int .i64 L1)/\v.cell? ⟨w1.heap.size,2,none⟩=some (.int .i64 L2)/\v.cell? ⟨w1.heap.size,3,none⟩=some (.int .i64 L3)/\v.cell? ⟨w1.heap.size,4,none⟩=some (.int .i64 L4)) fun hJ=>?_;refine wpAnyH_take (i:=0) (v:=?_) A2 kR kR kR A3 (Or.inl ⟨rF,?_⟩) A4 ?_
  rotate_left 1
  ·(intro wS hSw;(try dsimp only at hSw);go_simp;try(with_reducible rfl))
  try simp only[Act.put,List.setIfInBounds_toArray,List.set_cons_zero,List.set_cons_succ]
  refine wpAnyH_take (i:=1) (v:=?_) A2 kR kR kR A3 (Or.inl ⟨rF,?_⟩) A4 ?_
  rotate_left 1
  ·(intro wS hSw;(try dsimp only at hSw);go_simp;try(with_reducible rfl))
  try simp only[Act.put,List.setIfInBounds_toArray,List.set_cons_zero,List.set_cons_succ]
  refine wpAnyH_take (i:=2) (v:=?_) A2 kR kR kR A3 (Or.inl ⟨rF,?_⟩) A4 ?_
  rotate_left 1
  ·(intro wS hSw;(try dsimp only at hSw);go_simp;try(with_reducible rfl))
  try simp only[Act.put,List.setIfInBounds_toArray,List.set_cons_zero,List.set_cons_succ]
  refine wpAnyH_take (i:=3) (v:=?_) A2 kR kR kR A3 (Or.inl ⟨rF,?_⟩) A4 ?_
  rotate_left 1
  ·(intro wS hSw;(try dsimp only at hSw);go_simp;try(with_reducible rfl))
  try simp only[Act.put,List.setIfInBounds_toArray,List.set_cons_zero,List.set_cons_succ]
  refine wpAnyH_take (i:=4) (v:=?_) A2 kR kR kR A3 (Or.inl ⟨rF,?_⟩) A4 ?_
  rotate_left 1
  ·(intro wS hSw;(try dsimp only at hSw);go_simp;try(with_reducible rfl))
  try simp only[Act.put,List.setIfInBounds_toArray,List.set_cons_zero,List.set_cons_succ]
  refine wpAnyH_take (i:=5) (v:=?_) A2 kR kR kR A3 (Or.inl ⟨rF,?_⟩) A4 ?_
  rotate_left 1
  ·(intro wS hSw;(try dsimp only at hSw);go_simp;try(with_reducible rfl))
  try simp only[Act.put,List.setIfInBounds_toArray,List.set_cons_zero,List.set_cons_succ]
  refine wpAnyH_take (i:=6) (v:=?_) A2 kR kR kR A3 (Or.inl ⟨rF,?_⟩) A4 ?_
  rotate_left 1
  ·(intro wS hSw;(try dsimp only at hSw);go_simp;try(with_reducible rfl))
  try simp only[Act.put,List.setIfInBounds_toArray,List.set_cons_zero,List.set_cons_succ]
  refine wpAnyH_take (i:=7) (v:=?_) A2 kR kR kR A3 (Or.inl ⟨rF,?_⟩) A4 ?_
  rotate_left 1
  ·(intro wS hSw;(try dsimp only at hSw);go_simp;try(with_reducible rfl))
  try simp only[Act.put,List.setIfInBounds_toArray,List.set_cons_zero,List.set_cons_succ]
  refine wpAnyH_take (i:=8) (v:=?_) A2 kR kR kR A3 (Or.inl ⟨rF,?_⟩) A4 ?_
  rotate_left 1
  ·(intro wS hSw;(try dsimp only at hSw);go_simp;try(with_reducible rfl))
  try simp only[Act.put,List.setIfInBounds_toArray,List.set_cons_zero,List.set_cons_succ]
  clear hJ;refine AH 9 fun K hK=>?_;go_simp;(go_at_call 43;refine(HK2.out _ (HC0.below (bel HT.bel (A7 _))) (HI0.below (bel HT.bel (A7 _)))).mono ?_;rintro e w2 ⟨rfl,hw2⟩;have HB2:=bel (A7 _) hw2;obtain⟨y0,y1,y2,y3,y4,y5⟩:=HCX.out w2 HB2);try(go_wp2_with fail)
  refine AJ hK fun hJ=>?_;clear hK K;refine wpAnyH_take (i:=10) (v:=?_) A2 kR kR kR A3 (Or.inl ⟨rF,?_⟩) A4 ?_
  rotate_left 1
  ·(intro wS hSw;(try dsimp only at hSw);go_simp;try(with_reducible rfl))
  try simp only[Act.put,List.setIfInBounds_toArray,List.set_cons_zero,List.set_cons_succ]
  refine wpAnyH_take (i:=11) (v:=?_) A2 kR kR kR A3 (Or.inl ⟨rF,?_⟩) A4 ?_
  rotate_left 1
  ·(intro wS hSw;(try dsimp only at hSw);go_simp;try(with_reducible rfl))
  try simp only[Act.put,List.setIfInBounds_toArray,List.set_cons_zero,List.set_cons_succ]
  refine wpAnyH_take (i:=12) (v:=?_) A2 kR kR kR A3 (Or.inl ⟨rF,?_⟩) A4 ?_
  rotate_left 1
  ·(intro wS hSw;(try dsimp only at hSw);go_simp;try(with_reducible rfl))
  try simp only[Act.put,List.setIfInBounds_toArray,List.set_cons_zero,List.set_cons_succ]
  refine wpAnyH_take (i:=13) (v:=undef) A2 kR kR kR A3 (Or.inr ⟨rF,rfl⟩) A4 ?_;try simp only[Act.put,List.setIfInBounds_toArray,List.set_cons_zero,List.set_cons_succ]
  refine wpAnyH_take (i:=14) (v:=undef) A2 kR kR kR A3 (Or.inr ⟨rF,rfl⟩) A4 ?_;try simp only[Act.put,List.setIfInBounds_toArray,List.set_cons_zero,List.set_cons_succ]
  refine wpAnyH_take (i:=15) (v:=undef) A2 kR kR kR A3 (Or.inr ⟨rF,rfl⟩) A4 ?_;try simp only[Act.put,List.setIfInBounds_toArray,List.set_cons_zero,List.set_cons_succ]
  refine wpAnyH_take (i:=16) (v:=undef) A2 kR kR kR A3 (Or.inr ⟨rF,rfl⟩) A4 ?_;try simp only[Act.put,List.setIfInBounds_toArray,List.set_cons_zero,List.set_cons_succ]
  refine wpAnyH_take (i:=17) (v:=undef) A2 kR kR kR A3 (Or.inr ⟨rF,rfl⟩) A4 ?_;try simp only[Act.put,List.setIfInBounds_toArray,List.set_cons_zero,List.set_cons_succ]
  refine wpAnyH_take (i:=18) (v:=?_) A2 kR kR kR A3 (Or.inl ⟨rF,?_⟩) A4 ?_
  rotate_left 1
  ·(intro wS hSw;(try dsimp only at hSw);go_simp;try(with_reducible rfl))
  try simp only[Act.put,List.setIfInBounds_toArray,List.set_cons_zero,List.set_cons_succ]
  refine wpAnyH_done kR ?_ _;go_wp2;go_ret;exact⟨rfl,(bel HT.bel HB2).mono hE,fun e=>absurd e sM⟩
 cases X2
 .go_enter func29,ntmps29;go_wp2_with(go_at_call 42;refine HK1.mono ?_;rintro e w1 ⟨rfl,hw1⟩;have HT:Hid (TK w w1.heap.size G C L0 L1 L2 L3 L4 (w1.alloc (.cells #[.int .i64 L0,.int .i64 L1,.int .i64 L2,.int .i64 L3,.int .i64 L4] 89))):=KK);have HCX:Hid (∀v,Below (w1.alloc (.cells #[.int .i64 L0,.int .i64 L1,.int .i64 L2,.int .i64 L3,.int .i64 L4] 89)).heap.size (w1.alloc (.cells #[.int .i64 L0,.int .i64 L1,.int .i64 L2,.int .i64 L3,.int .i64 L4] 89)) v->v.cell? ⟨G,0,none⟩=some (.pointer (some ⟨C,0,none⟩))/\v.cell? ⟨w1.heap.size,0,none⟩=some (.int .i64 L0)/\v.cell? ⟨w1.heap.size,1,none⟩=some (.int .i64 L1)/\v.cell? ⟨w1.heap.size,2,none⟩=some (.int .i64 L2)/\v.cell? ⟨w1.heap.size,3,none⟩=some (.int .i64 L3)/\v.cell? ⟨w1.heap.size,4,none⟩=some (.int .i64 L4)):=fun v hv=>⟨(HT.next hv).g0,(HT.next hv).r0,(HT.next hv).r1,(HT.next hv).r2,(HT.next hv).r3,(HT.next hv).r4⟩;obtain⟨t0,t1,t2,t3,t4,t5⟩:=HCX.out _ (BC _);refine rG (fun v=>v.cell? ⟨G,0,none⟩=some (.pointer (some ⟨C,0,none⟩))/\v.cell? ⟨w1.heap.size,0,none⟩=some (.int .i64 L0)/\v.cell? ⟨w1.heap.size,1,none⟩=some (.int .i64 L1)/\v.cell? ⟨w1.heap.size,2,none⟩=some (.int .i64 L2)/\v.cell? ⟨w1.heap.size,3,none⟩=some (.int .i64 L3)/\v.cell? ⟨w1.heap.size,4,none⟩=some (.int .i64 L4)) fun hJ=>?_;refine wpAnyH_take (i:=0) (v:=?_) A2 kR kR kR A3 (Or.inl ⟨rF,?_⟩) A4 ?_
  rotate_left 1
  ·(intro wS hSw;(try dsimp only at hSw);go_simp;try(with_reducible rfl))
  try simp only[Act.put,List.setIfInBounds_toArray,List.set_cons_zero,List.set_cons_succ]
  refine wpAnyH_take (i:=1) (v:=?_) A2 kR kR kR A3 (Or.inl ⟨rF,?_⟩) A4 ?_
  rotate_left 1
  ·(intro wS hSw;(try dsimp only at hSw);go_simp;try(with_reducible rfl))
  try simp only[Act.put,List.setIfInBounds_toArray,List.set_cons_zero,List.set_cons_succ]
  refine wpAnyH_take (i:=2) (v:=?_) A2 kR kR kR A3 (Or.inl ⟨rF,?_⟩) A4 ?_
  rotate_left 1
  ·(intro wS hSw;(try dsimp only at hSw);go_simp;try(with_reducible rfl))
  try simp only[Act.put,List.setIfInBounds_toArray,List.set_cons_zero,List.set_cons_succ]
  refine wpAnyH_take (i:=3) (v:=?_) A2 kR kR kR A3 (Or.inl ⟨rF,?_⟩) A4 ?_
  rotate_left 1
  ·(intro wS hSw;(try dsimp only at hSw);go_simp;try(with_reducible rfl))
  try simp only[Act.put,List.setIfInBounds_toArray,List.set_cons_zero,List.set_cons_succ]
  refine wpAnyH_take (i:=4) (v:=?_) A2 kR kR kR A3 (Or.inl ⟨rF,?_⟩) A4 ?_
  rotate_left 1
  ·(intro wS hSw;(try dsimp only at hSw);go_simp;try(with_reducible rfl))
  try simp only[Act.put,List.setIfInBounds_toArray,List.set_cons_zero,List.set_cons_succ]
  refine wpAnyH_take (i:=5) (v:=?_) A2 kR kR kR A3 (Or.inl ⟨rF,?_⟩) A4 ?_
  rotate_left 1
  ·(intro wS hSw;(try dsimp only at hSw);go_simp;try(with_reducible rfl))
  try simp only[Act.put,List.setIfInBounds_toArray,List.set_cons_zero,List.set_cons_succ]
  refine wpAnyH_take (i:=6) (v:=?_) A2 kR kR kR A3 (Or.inl ⟨rF,?_⟩) A4 ?_
  rotate_left 1
  ·(intro wS hSw;(try dsimp only at hSw);go_simp;try(with_reducible rfl))
  try simp only[Act.put,List.setIfInBounds_toArray,List.set_cons_zero,List.set_cons_succ]
  refine wpAnyH_take (i:=7) (v:=?_) A2 kR kR kR A3 (Or.inl ⟨rF,?_⟩) A4 ?_
  rotate_left 1
  ·(intro wS hSw;(try dsimp only at hSw);go_simp;try(with_reducible rfl))
  try simp only[Act.put,List.setIfInBounds_toArray,List.set_cons_zero,List.set_cons_succ]
  refine wpAnyH_take (i:=8) (v:=?_) A2 kR kR kR A3 (Or.inl ⟨rF,?_⟩) A4 ?_
  rotate_left 1
  ·(intro wS hSw;(try dsimp only at hSw);go_simp;try(with_reducible rfl))
  try simp only[Act.put,List.setIfInBounds_toArray,List.set_cons_zero,List.set_cons_succ]
  clear hJ;refine AH 9 fun K hK=>?_;go_simp;(go_at_call 43;refine(HK2.out _ (HC0.below (bel HT.bel (A7 _))) (HI0.below (bel HT.bel (A7 _)))).mono ?_;rintro e w2 ⟨rfl,hw2⟩;have HB2:=bel (A7 _) hw2;obtain⟨y0,y1,y2,y3,y4,y5⟩:=HCX.out w2 HB2);try(go_wp2_with fail)
  refine AJ hK fun hJ=>?_;clear hK K;refine wpAnyH_take (i:=10) (v:=?_) A2 kR kR kR A3 (Or.inl ⟨rF,?_⟩) A4 ?_
  rotate_left 1
  ·(intro wS hSw;(try dsimp only at hSw);go_simp;try(with_reducible rfl))
  try simp only[Act.put,List.setIfInBounds_toArray,List.set_cons_zero,List.set_cons_succ]
  refine wpAnyH_take (i:=11) (v:=?_) A2 kR kR kR A3 (Or.inl ⟨rF,?_⟩) A4 ?_
  rotate_left 1
  ·(intro wS hSw;(try dsimp only at hSw);go_simp;try(with_reducible rfl))
  try simp only[Act.put,List.setIfInBounds_toArray,List.set_cons_zero,List.set_cons_succ]
  refine wpAnyH_take (i:=12) (v:=?_) A2 kR kR kR A3 (Or.inl ⟨rF,?_⟩) A4 ?_
  rotate_left 1
  ·(intro wS hSw;(try dsimp only at hSw);go_simp;try(with_reducible rfl))
  try simp only[Act.put,List.setIfInBounds_toArray,List.set_cons_zero,List.set_cons_succ]
  refine wpAnyH_take (i:=13) (v:=?_) A2 kR kR kR A3 (Or.inl ⟨rF,?_⟩) A4 ?_
  rotate_left 1
  ·(intro wS hSw;(try dsimp only at hSw);go_simp;try(with_reducible rfl))
  try simp only[Act.put,List.setIfInBounds_toArray,List.set_cons_zero,List.set_cons_succ]
  refine wpAnyH_take (i:=14) (v:=?_) A2 kR kR kR A3 (Or.inl ⟨rF,?_⟩) A4 ?_
  rotate_left 1
  ·(intro wS hSw;(try dsimp only at hSw);go_simp;try(with_reducible rfl))
  try simp only[Act.put,List.setIfInBounds_toArray,List.set_cons_zero,List.set_cons_succ]
  refine wpAnyH_take (i:=15) (v:=?_) A2 kR kR kR A3 (Or.inl ⟨rF,?_⟩) A4 ?_
  rotate_left 1
  ·(intro wS hSw;(try dsimp only at hSw);go_simp;try(with_reducible rfl))
  try simp only[Act.put,List.setIfInBounds_toArray,List.set_cons_zero,List.set_cons_succ]
  clear hJ;refine AH 16 fun K hK=>?_;go_simp;(go_at_call 44;refine(HK3.out _ (HS0.below (bel HT.bel HB2)) (HC0.below (bel HT.bel HB2)) (HI0.below (bel HT.bel HB2))).mono ?_;rintro e w3 ⟨rfl,hw3⟩;have HB3:=bel HB2 hw3;obtain⟨y0,y1,y2,y3,y4,y5⟩:=HCX.out w3 HB3);try(go_wp2_with fail)
  refine AJ hK fun hJ=>?_;clear hK K;refine wpAnyH_take (i:=17) (v:=?_) A2 kR kR kR A3 (Or.inl ⟨rF,?_⟩) A4 ?_
  rotate_left 1
  ·(intro wS hSw;(try dsimp only at hSw);go_simp;try(with_reducible rfl))
  try simp only[Act.put,List.setIfInBounds_toArray,List.set_cons_zero,List.set_cons_succ]
  refine wpAnyH_take (i:=18) (v:=?_) A2 kR kR kR A3 (Or.inl ⟨rF,?_⟩) A4 ?_
  rotate_left 1
  ·(intro wS hSw;(try dsimp only at hSw);go_simp;try(with_reducible rfl))
  try simp only[Act.put,List.setIfInBounds_toArray,List.set_cons_zero,List.set_cons_succ]
  refine wpAnyH_done kR ?_ _;go_wp2;go_ret;exact⟨rfl,(bel HT.bel HB3).mono hE,fun e=>absurd e sM⟩
 go_enter func29,ntmps29;go_wp2_with(go_at_call 42;refine HK1.mono ?_;rintro e w1 ⟨rfl,hw1⟩;have HT:Hid (TK w w1.heap.size G C L0 L1 L2 L3 L4 (w1.alloc (.cells #[.int .i64 L0,.int .i64 L1,.int .i64 L2,.int .i64 L3,.int .i64 L4] 89))):=KK);have HCX:Hid (∀v,Below (w1.alloc (.cells #[.int .i64 L0,.int .i64 L1,.int .i64 L2,.int .i64 L3,.int .i64 L4] 89)).heap.size (w1.alloc (.cells #[.int .i64 L0,.int .i64 L1,.int .i64 L2,.int .i64 L3,.int .i64 L4] 89)) v->v.cell? ⟨G,0,none⟩=some (.pointer (some ⟨C,0,none⟩))/\v.cell? ⟨w1.heap.size,0,none⟩=some (.int .i64 L0)/\v.cell? ⟨w1.heap.size,1,none⟩=some (.int .i64 L1)/\v.cell? ⟨w1.heap.size,2,none⟩=some (.int .i64 L2)/\v.cell? ⟨w1.heap.size,3,none⟩=some (.int .i64 L3)/\v.cell? ⟨w1.heap.size,4,none⟩=some (.int .i64 L4)):=fun v hv=>⟨(HT.next hv).g0,(HT.next hv).r0,(HT.next hv).r1,(HT.next hv).r2,(HT.next hv).r3,(HT.next hv).r4⟩;obtain⟨t0,t1,t2,t3,t4,t5⟩:=HCX.out _ (BC _);refine rG (fun v=>v.cell? ⟨G,0,none⟩=some (.pointer (some ⟨C,0,none⟩))/\v.cell? ⟨w1.heap.size,0,none⟩=some (.int .i64 L0)/\v.cell? ⟨w1.heap.size,1,none⟩=some (.int .i64 L1)/\v.cell? ⟨w1.heap.size,2,none⟩=some (.int .i64 L2)/\v.cell? ⟨w1.heap.size,3,none⟩=some (.int .i64 L3)/\v.cell? ⟨w1.heap.size,4,none⟩=some (.int .i64 L4)) fun hJ=>?_;refine wpAnyH_take (i:=0) (v:=?_) A2 kR kR kR A3 (Or.inl ⟨rF,?_⟩) A4 ?_
 rotate_left 1
 ·(intro wS hSw;(try dsimp only at hSw);go_simp;try(with_reducible rfl))
 try simp only[Act.put,List.setIfInBounds_toArray,List.set_cons_zero,List.set_cons_succ]
 refine wpAnyH_take (i:=1) (v:=?_) A2 kR kR kR A3 (Or.inl ⟨rF,?_⟩) A4 ?_
 rotate_left 1
 ·(intro wS hSw;(try dsimp only at hSw);go_simp;try(with_reducible rfl))
 try simp only[Act.put,List.setIfInBounds_toArray,List.set_cons_zero,List.set_cons_succ]
 refine wpAnyH_take (i:=2) (v:=?_) A2 kR kR kR A3 (Or.inl ⟨rF,?_⟩) A4 ?_
 rotate_left 1
 ·(intro wS hSw;(try dsimp only at hSw);go_simp;try(with_reducible rfl))
 try simp only[Act.put,List.setIfInBounds_toArray,List.set_cons_zero,List.set_cons_succ]
 refine wpAnyH_take (i:=3) (v:=?_) A2 kR kR kR A3 (Or.inl ⟨rF,?_⟩) A4 ?_
 rotate_left 1
 ·(intro wS hSw;(try dsimp only at hSw);go_simp;try(with_reducible rfl))
 try simp only[Act.put,List.setIfInBounds_toArray,List.set_cons_zero,List.set_cons_succ]
 refine wpAnyH_take (i:=4) (v:=?_) A2 kR kR kR A3 (Or.inl ⟨rF,?_⟩) A4 ?_
 rotate_left 1
 ·(intro wS hSw;(try dsimp only at hSw);go_simp;try(with_reducible rfl))
 try simp only[Act.put,List.setIfInBounds_toArray,List.set_cons_zero,List.set_cons_succ]
 refine wpAnyH_take (i:=5) (v:=?_) A2 kR kR kR A3 (Or.inl ⟨rF,?_⟩) A4 ?_
 rotate_left 1
 ·(intro wS hSw;(try dsimp only at hSw);go_simp;try(with_reducible rfl))
 try simp only[Act.put,List.setIfInBounds_toArray,List.set_cons_zero,List.set_cons_succ]
 refine wpAnyH_take (i:=6) (v:=?_) A2 kR kR kR A3 (Or.inl ⟨rF,?_⟩) A4 ?_
 rotate_left 1
 ·(intro wS hSw;(try dsimp only at hSw);go_simp;try(with_reducible rfl))
 try simp only[Act.put,List.setIfInBounds_toArray,List.set_cons_zero,List.set_cons_succ]
 refine wpAnyH_take (i:=7) (v:=?_) A2 kR kR kR A3 (Or.inl ⟨rF,?_⟩) A4 ?_
 rotate_left 1
 ·(intro wS hSw;(try dsimp only at hSw);go_simp;try(with_reducible rfl))
 try simp only[Act.put,List.setIfInBounds_toArray,List.set_cons_zero,List.set_cons_succ]
 refine wpAnyH_take (i:=8) (v:=?_) A2 kR kR kR A3 (Or.inl ⟨rF,?_⟩) A4 ?_
 rotate_left 1
 ·(intro wS hSw;(try dsimp only at hSw);go_simp;try(with_reducible rfl))
 try simp only[Act.put,List.setIfInBounds_toArray,List.set_cons_zero,List.set_cons_succ]
 clear hJ;refine AH 9 fun K hK=>?_;go_simp;(go_at_call 43;refine(HK2.out _ (HC0.below (bel HT.bel (A7 _))) (HI0.below (bel HT.bel (A7 _)))).mono ?_;rintro e w2 ⟨rfl,hw2⟩;have HB2:=bel (A7 _) hw2;obtain⟨y0,y1,y2,y3,y4,y5⟩:=HCX.out w2 HB2);try(go_wp2_with fail)
 refine AJ hK fun hJ=>?_;clear hK K;refine wpAnyH_take (i:=10) (v:=?_) A2 kR kR kR A3 (Or.inl ⟨rF,?_⟩) A4 ?_
 rotate_left 1
 ·(intro wS hSw;(try dsimp only at hSw);go_simp;try(with_reducible rfl))
 try simp only[Act.put,List.setIfInBounds_toArray,List.set_cons_zero,List.set_cons_succ]
 refine wpAnyH_take (i:=11) (v:=?_) A2 kR kR kR A3 (Or.inl ⟨rF,?_⟩) A4 ?_
 rotate_left 1
 ·(intro wS hSw;(try dsimp only at hSw);go_simp;try(with_reducible rfl))
 try simp only[Act.put,List.setIfInBounds_toArray,List.set_cons_zero,List.set_cons_succ]
 refine wpAnyH_take (i:=12) (v:=?_) A2 kR kR kR A3 (Or.inl ⟨rF,?_⟩) A4 ?_
 rotate_left 1
 ·(intro wS hSw;(try dsimp only at hSw);go_simp;try(with_reducible rfl))
 try simp only[Act.put,List.setIfInBounds_toArray,List.set_cons_zero,List.set_cons_succ]
 refine wpAnyH_take (i:=13) (v:=?_) A2 kR kR kR A3 (Or.inl ⟨rF,?_⟩) A4 ?_
 rotate_left 1
 ·(intro wS hSw;(try dsimp only at hSw);go_simp;try(with_reducible rfl))
 try simp only[Act.put,List.setIfInBounds_toArray,List.set_cons_zero,List.set_cons_succ]
 refine wpAnyH_take (i:=14) (v:=?_) A2 kR kR kR A3 (Or.inl ⟨rF,?_⟩) A4 ?_
 rotate_left 1
 ·(intro wS hSw;(try dsimp only at hSw);go_simp;try(with_reducible rfl))
 try simp only[Act.put,List.setIfInBounds_toArray,List.set_cons_zero,List.set_cons_succ]
 refine wpAnyH_take (i:=15) (v:=?_) A2 kR kR kR A3 (Or.inl ⟨rF,?_⟩) A4 ?_
 rotate_left 1
 ·(intro wS hSw;(try dsimp only at hSw);go_simp;try(with_reducible rfl))
 try simp only[Act.put,List.setIfInBounds_toArray,List.set_cons_zero,List.set_cons_succ]
 clear hJ;refine AH 16 fun K hK=>?_;go_simp;(go_at_call 44;refine(HK3.out _ (HS0.below (bel HT.bel HB2)) (HC0.below (bel HT.bel HB2)) (HI0.below (bel HT.bel HB2))).mono ?_;rintro e w3 ⟨rfl,hw3⟩;have HB3:=bel HB2 hw3;obtain⟨y0,y1,y2,y3,y4,y5⟩:=HCX.out w3 HB3);try(go_wp2_with fail)
 refine AJ hK fun hJ=>?_;clear hK K;refine wpAnyH_take (i:=17) (v:=?_) A2 kR kR kR A3 (Or.inl ⟨rF,?_⟩) A4 ?_
 rotate_left 1
 ·(intro wS hSw;(try dsimp only at hSw);go_simp;try(with_reducible rfl))
 try simp only[Act.put,List.setIfInBounds_toArray,List.set_cons_zero,List.set_cons_succ]
 refine wpAnyH_take (i:=18) (v:=?_) A2 kR kR kR A3 (Or.inl ⟨rF,?_⟩) A4 ?_
 rotate_left 1
 ·(intro wS hSw;(try dsimp only at hSw);go_simp;try(with_reducible rfl))
 try simp only[Act.put,List.setIfInBounds_toArray,List.set_cons_zero,List.set_cons_succ]
 refine wpAnyH_done kR ?_ _;have HT3:Hid (TK w w1.heap.size G C L0 L1 L2 L3 L4 w3):=HT.next HB3;clear HB2 HB3 hw2 hw3;go_wp2_with(go_at_call 45;refine(HK4.out _ (HI0.below HT3.bel)).mono ?_;rintro e w4 ⟨u,rfl,hu,hw4⟩;obtain⟨pu,cu,hue⟩:=Ap hu;subst hue;have HU:Hid (w4.ownsRow w3.heap.size 3 1 (.slice pu RL.length cu) RL.length (Bb RL)):=hu;have HT4:Hid (TK w w1.heap.size G C L0 L1 L2 L3 L4 w4):=HT3.next hw4;clear hu hw4);have HSW:Hid (WS E G C n gi vs vo w4 s):=HS0.below HT4.bel;have k0:=HT4.r0;have k1:=HT4.r1;have k2:=HT4.r2;have k3:=HT4.r3;have k4:=HT4.r4;have HFX:Hid (∀j (hj:j<RL.length),∃ (gu x:Nat),pu=some ⟨gu,0,none⟩/\w4.cell? ⟨gu,j,none⟩=some (.int .i64 (x:Int))/\x<n/\w4.cell? ⟨gi,x,none⟩=some (.bool (decide (x∈s.set)))/\decide (x∈s.set)=decide (RL[j].toNat∈s.set)):=fun j hj=>by
  obtain⟨gu,cap,hv,_,_,_,_,hcl⟩:=Cc HU.out oM;simp only[Value.slice.injEq]at hv;have hx:=HKL.out fT RL[j] (gD hj);refine⟨gu,RL[j].toNat,hv.1,?_,oM,HSW.i.cell oM,rfl⟩;rw[show((RL[j].toNat:Nat):Int)=RL[j] by omega];exact hcl j _ (by simp[Bb,gB hj])
 have d1:=HSW.c1;obtain⟨M,hM⟩:=gA (RL.length)
 have HM:Hid (RL.length=M):=hM;rw[hM]at KN |-;clear hM
 go_loopw [40] (fun iv wr=>wr=w4/\∃j:Nat,j<=M/\iv=.int .i64 j/\Hid (∀i (h:i<RL.length),i<j->decide (RL[i].toNat∈s.set)=true)) (fun iv _=>M-(intOf iv).toNat)
 case atStart=>exact⟨rfl,0,gI _,rfl,fun i h hi=>absurd hi (Nat.not_lt_zero _)⟩
 case round=>
  clear HT HT3 HCX t0 t1 t2 t3 t4 t5 y0 y1 y2 y3 y4 y5;obtain⟨rfl,j,hj,rfl,hp⟩:=hrel;by_cases hlt:j<M
  .have hll:j<RL.length:=by rw[HM.out];exact hlt
   obtain⟨gu,x,rfl,a1,a2,a3,a4⟩:=HFX.out j hll;have NX:Hid (decide (RL[j].toNat∈s.set)=true->∀i (h:i<RL.length),i<j+1->decide (RL[i].toNat∈s.set)=true):=fun hq i h hi=>by
    exact JB
   have NB:Hid (decide (RL[j].toNat∈s.set)=false->(RL.all fun n=>decide (n.toNat∈s.set))=false):=fun h=>List.all_eq_false.2 ⟨RL[j],gD hll,by rw[h];decide⟩;rw[<-a4]at NX NB;have i1:(0:Int)<=(j:Int):=oM;have i2:(j:Int)<(M:Int):=oM;have i3:(0:Int)<=(x:Int):=oM;have i4:(x:Int)<(n:Int):=oM;obtain⟨Y,hY⟩:=gA (decide (x∈s.set))
   rw[hY]at NX NB a3;clear hp hY a4 HFX HU;cases Y
   .go_wp2;go_ret;have hF:AL=false:=by rw[<-HAL.out];exact NB.out fT
    exact⟨by rw[hF];rfl,HT4.bel.mono hE,fun e=>absurd e (by simp[hF])⟩
   .go_wp2;go_roundw
    case rel=>exact⟨fT,j+1,oM,gN,NX.out fT⟩
    case measure=>simp[intOf];omega
  .have:j=M:=oM;subst this;have HF:Hid ((RL.all fun n=>decide (n.toNat∈s.set))=true):=List.all_eq_true.2 fun t ht=>by
    obtain⟨i,hi,rfl⟩:=List.mem_iff_getElem.1 ht;exact hp.out i hi (by rw[<-HM.out];exact hi)
   clear hp;go_wp2_with(go_at_call 46;refine(HK5.out fT fT _ HSW.out (HI0.below HT4.bel)).mono ?_;rintro e w6 ⟨rfl,hb6,hws⟩;have HB6:Hid (Below E wr w6):=hb6;have HWS:Hid (∃vs' vo',WS E G C n gi vs' vo' w6 Z):=hws;clear hb6 hws);go_ret;exact⟨by rw[<-HAL.out,HF.out];rfl,(HT4.bel.mono hE).trans HB6.out,fun _=>HWS.out⟩
theorem G3(w:World):Calls prog 54 #[.int .i64 22] w fun e w'=>e=.returned (.tuple #[.string ⟨#[119,119,119,45,45]⟩,.bool true])/\w'=w:=by
 exact BR
theorem G4(w:World):Calls prog 54 #[.int .i64 23] w fun e w'=>e=.returned (.tuple #[.string ⟨#[119,119,119,45,45]⟩,.bool true])/\w'=w:=by
 exact BR
theorem G5(w:World):Calls prog 54 #[.int .i64 24] w fun e w'=>e=.returned (.tuple #[.string ⟨#[119,119,119,45,45]⟩,.bool true])/\w'=w:=by
 exact BR
theorem G6(w:World):Calls prog 54 #[.int .i64 25] w fun e w'=>e=.returned (.tuple #[.string ⟨#[119,119,45,45,45]⟩,.bool true])/\w'=w:=by
 exact BR
theorem G7(w:World):Calls prog 54 #[.int .i64 26] w fun e w'=>e=.returned (.tuple #[.string ⟨#[119,119,119,119,45]⟩,.bool true])/\w'=w:=by
 exact BR
theorem G8(w:World):Calls prog 54 #[.int .i64 27] w fun e w'=>e=.returned (.tuple #[.string ⟨#[119,119,119,45,45]⟩,.bool true])/\w'=w:=by
 exact BR
theorem G9(w:World):Calls prog 54 #[.int .i64 28] w fun e w'=>e=.returned (.tuple #[.string ⟨#[119,119,119,45,45]⟩,.bool true])/\w'=w:=by
 exact BR
theorem Ga(w:World):Calls prog 54 #[.int .i64 29] w fun e w'=>e=.returned (.tuple #[.string ⟨#[118,45,45,45,112]⟩,.bool true])/\w'=w:=by
 exact BR
theorem Gb(w:World):Calls prog 54 #[.int .i64 30] w fun e w'=>e=.returned (.tuple #[.string ⟨#[118,45,45,45,112]⟩,.bool true])/\w'=w:=by
 exact BR
theorem Gc(w:World):Calls prog 54 #[.int .i64 31] w fun e w'=>e=.returned (.tuple #[.string ⟨#[45,118,45,45,112]⟩,.bool true])/\w'=w:=by
 exact BR
theorem Gd(w:World):Calls prog 54 #[.int .i64 32] w fun e w'=>e=.returned (.tuple #[.string ⟨#[97,45,45,45,115]⟩,.bool true])/\w'=w:=by
 exact BR
theorem Ge(w:World):Calls prog 54 #[.int .i64 33] w fun e w'=>e=.returned (.tuple #[.string ⟨#[45,97,45,45,115]⟩,.bool true])/\w'=w:=by
 exact BR
theorem Gf(w:World):Calls prog 54 #[.int .i64 34] w fun e w'=>e=.returned (.tuple #[.string ⟨#[45,119,45,45,45]⟩,.bool true])/\w'=w:=by
 exact BR
theorem Gg(w:World):Calls prog 54 #[.int .i64 35] w fun e w'=>e=.returned (.tuple #[.string ⟨#[45,45,45,45,45]⟩,.bool true])/\w'=w:=by
 exact BR
theorem Gh(w:World):Calls prog 54 #[.int .i64 36] w fun e w'=>e=.returned (.tuple #[.string ⟨#[45,45,45,45,113]⟩,.bool true])/\w'=w:=by
 exact BR
theorem Gi(w:World):Calls prog 54 #[.int .i64 37] w fun e w'=>e=.returned (.tuple #[.string ⟨#[45,45,45,45,45]⟩,.bool true])/\w'=w:=by
 exact BR
theorem E3(op:Int)(h:An op=false)(w:World):Calls prog 54 #[.int .i64 op] w fun e w'=>e=.returned (.tuple #[.string ⟨#[]⟩,.bool false])/\w'=w:=by
 have hh:op<1\/37<op:=by unfold An at h;simp at h;omega
 have e1:(op==1)=false:=by have:op≠1:=oM;simpa using this
 have e2:(op==2)=false:=by have:op≠2:=oM;simpa using this
 have e3:(op==3)=false:=by have:op≠3:=oM;simpa using this
 have e4:(op==4)=false:=by have:op≠4:=oM;simpa using this
 have e5:(op==5)=false:=by have:op≠5:=oM;simpa using this
 have e6:(op==6)=false:=by have:op≠6:=oM;simpa using this
 have e7:(op==7)=false:=by have:op≠7:=oM;simpa using this
 have e8:(op==8)=false:=by have:op≠8:=oM;simpa using this
 have e9:(op==9)=false:=by have:op≠9:=oM;simpa using this
 have e10:(op==10)=false:=by have:op≠10:=oM;simpa using this
 have e11:(op==11)=false:=by have:op≠11:=oM;simpa using this
 have e12:(op==12)=false:=by have:op≠12:=oM;simpa using this
 have e13:(op==13)=false:=by have:op≠13:=oM;simpa using this
 have e14:(op==14)=false:=by have:op≠14:=oM;simpa using this
 have e15:(op==15)=false:=by have:op≠15:=oM;simpa using this
 have e16:(op==16)=false:=by have:op≠16:=oM;simpa using this
 have e17:(op==17)=false:=by have:op≠17:=oM;simpa using this
 have e18:(op==18)=false:=by have:op≠18:=oM;simpa using this
 have e19:(op==19)=false:=by have:op≠19:=oM;simpa using this
 have e20:(op==20)=false:=by have:op≠20:=oM;simpa using this
 have e21:(op==21)=false:=by have:op≠21:=oM;simpa using this
 have e22:(op==22)=false:=by have:op≠22:=oM;simpa using this
 have e23:(op==23)=false:=by have:op≠23:=oM;simpa using this
 have e24:(op==24)=false:=by have:op≠24:=oM;simpa using this
 have e25:(op==25)=false:=by have:op≠25:=oM;simpa using this
 have e26:(op==26)=false:=by have:op≠26:=oM;simpa using this
 have e27:(op==27)=false:=by have:op≠27:=oM;simpa using this
 have e28:(op==28)=false:=by have:op≠28:=oM;simpa using this
 have e29:(op==29)=false:=by have:op≠29:=oM;simpa using this
 have e30:(op==30)=false:=by have:op≠30:=oM;simpa using this
 have e31:(op==31)=false:=by have:op≠31:=oM;simpa using this
 have e32:(op==32)=false:=by have:op≠32:=oM;simpa using this
 have e33:(op==33)=false:=by have:op≠33:=oM;simpa using this
 have e34:(op==34)=false:=by have:op≠34:=oM;simpa using this
 have e35:(op==35)=false:=by have:op≠35:=oM;simpa using this
 have e36:(op==36)=false:=by have:op≠36:=oM;simpa using this
 have e37:(op==37)=false:=by have:op≠37:=oM;simpa using this
 clear hh h;exact BR
structure II(r:Rw)(a b c d e:UInt8):Prop where
 a:(a==45)=(r.d==0)
 b:(b==45)=(r.a==0)
 c:(c==45)=(r.b==0)
 d:(d==45)=(r.c==0)
theorem EI(op:Int)(w:World):(An op=false/\Calls prog 54 #[.int .i64 op] w fun e w'=>e=.returned (.tuple #[.string ⟨#[]⟩,.bool false])/\w'=w)\/(An op=true/\∃a b c d e:UInt8,II (Aa op) a b c d e/\∀w,Calls prog 54 #[.int .i64 op] w fun x w'=>x=.returned (.tuple #[.string ⟨#[a,b,c,d,e]⟩,.bool true])/\w'=w):=by
 by_cases h:An op=false
 .exact .inl ⟨h,E3 op h w⟩
 .have hh:1<=op/\op<=37:=by unfold An at h;simp at h;omega
  refine .inr ⟨by simpa using h,?_⟩;clear h;by_cases k1:op=1
  .subst k1;exact⟨_,_,_,_,_,⟨rfl,rfl,rfl,rfl⟩,fun w=>Ii w⟩
  by_cases k2:op=2
  .subst k2;exact⟨_,_,_,_,_,⟨rfl,rfl,rfl,rfl⟩,fun w=>Ij w⟩
  by_cases k3:op=3
  .subst k3;exact⟨_,_,_,_,_,⟨rfl,rfl,rfl,rfl⟩,fun w=>Ik w⟩
  by_cases k4:op=4
  .subst k4;exact⟨_,_,_,_,_,⟨rfl,rfl,rfl,rfl⟩,fun w=>Il w⟩
  by_cases k5:op=5
  .subst k5;exact⟨_,_,_,_,_,⟨rfl,rfl,rfl,rfl⟩,fun w=>Im w⟩
  by_cases k6:op=6
  .subst k6;exact⟨_,_,_,_,_,⟨rfl,rfl,rfl,rfl⟩,fun w=>In w⟩
  by_cases k7:op=7
  .subst k7;exact⟨_,_,_,_,_,⟨rfl,rfl,rfl,rfl⟩,fun w=>Io w⟩
  by_cases k8:op=8
  .subst k8;exact⟨_,_,_,_,_,⟨rfl,rfl,rfl,rfl⟩,fun w=>Ip w⟩
  by_cases k9:op=9
  .subst k9;exact⟨_,_,_,_,_,⟨rfl,rfl,rfl,rfl⟩,fun w=>Iq w⟩
  by_cases k10:op=10
  .subst k10;exact⟨_,_,_,_,_,⟨rfl,rfl,rfl,rfl⟩,fun w=>FQ w⟩
  by_cases k11:op=11
  .subst k11;exact⟨_,_,_,_,_,⟨rfl,rfl,rfl,rfl⟩,fun w=>FR w⟩
  by_cases k12:op=12
  .subst k12;exact⟨_,_,_,_,_,⟨rfl,rfl,rfl,rfl⟩,fun w=>FS w⟩
  by_cases k13:op=13
  .subst k13;exact⟨_,_,_,_,_,⟨rfl,rfl,rfl,rfl⟩,fun w=>FT w⟩
  by_cases k14:op=14
  .subst k14;exact⟨_,_,_,_,_,⟨rfl,rfl,rfl,rfl⟩,fun w=>FU w⟩
  by_cases k15:op=15
  .subst k15;exact⟨_,_,_,_,_,⟨rfl,rfl,rfl,rfl⟩,fun w=>FV w⟩
  by_cases k16:op=16
  .subst k16;exact⟨_,_,_,_,_,⟨rfl,rfl,rfl,rfl⟩,fun w=>FX w⟩
  by_cases k17:op=17
  .subst k17;exact⟨_,_,_,_,_,⟨rfl,rfl,rfl,rfl⟩,fun w=>FY w⟩
  by_cases k18:op=18
  .subst k18;exact⟨_,_,_,_,_,⟨rfl,rfl,rfl,rfl⟩,fun w=>FZ w⟩
  by_cases k19:op=19
  .subst k19;exact⟨_,_,_,_,_,⟨rfl,rfl,rfl,rfl⟩,fun w=>G0 w⟩
  by_cases k20:op=20
  .subst k20;exact⟨_,_,_,_,_,⟨rfl,rfl,rfl,rfl⟩,fun w=>G1 w⟩
  by_cases k21:op=21
  .subst k21;exact⟨_,_,_,_,_,⟨rfl,rfl,rfl,rfl⟩,fun w=>G2 w⟩
  by_cases k22:op=22
  .subst k22;exact⟨_,_,_,_,_,⟨rfl,rfl,rfl,rfl⟩,fun w=>G3 w⟩
  by_cases k23:op=23
  .subst k23;exact⟨_,_,_,_,_,⟨rfl,rfl,rfl,rfl⟩,fun w=>G4 w⟩
  by_cases k24:op=24
  .subst k24;exact⟨_,_,_,_,_,⟨rfl,rfl,rfl,rfl⟩,fun w=>G5 w⟩
  by_cases k25:op=25
  .subst k25;exact⟨_,_,_,_,_,⟨rfl,rfl,rfl,rfl⟩,fun w=>G6 w⟩
  by_cases k26:op=26
  .subst k26;exact⟨_,_,_,_,_,⟨rfl,rfl,rfl,rfl⟩,fun w=>G7 w⟩
  by_cases k27:op=27
  .subst k27;exact⟨_,_,_,_,_,⟨rfl,rfl,rfl,rfl⟩,fun w=>G8 w⟩
  by_cases k28:op=28
  .subst k28;exact⟨_,_,_,_,_,⟨rfl,rfl,rfl,rfl⟩,fun w=>G9 w⟩
  by_cases k29:op=29
  .subst k29;exact⟨_,_,_,_,_,⟨rfl,rfl,rfl,rfl⟩,fun w=>Ga w⟩
  by_cases k30:op=30
  .subst k30;exact⟨_,_,_,_,_,⟨rfl,rfl,rfl,rfl⟩,fun w=>Gb w⟩
  by_cases k31:op=31
  .subst k31;exact⟨_,_,_,_,_,⟨rfl,rfl,rfl,rfl⟩,fun w=>Gc w⟩
  by_cases k32:op=32
  .subst k32;exact⟨_,_,_,_,_,⟨rfl,rfl,rfl,rfl⟩,fun w=>Gd w⟩
  by_cases k33:op=33
  .subst k33;exact⟨_,_,_,_,_,⟨rfl,rfl,rfl,rfl⟩,fun w=>Ge w⟩
  by_cases k34:op=34
  .subst k34;exact⟨_,_,_,_,_,⟨rfl,rfl,rfl,rfl⟩,fun w=>Gf w⟩
  by_cases k35:op=35
  .subst k35;exact⟨_,_,_,_,_,⟨rfl,rfl,rfl,rfl⟩,fun w=>Gg w⟩
  by_cases k36:op=36
  .subst k36;exact⟨_,_,_,_,_,⟨rfl,rfl,rfl,rfl⟩,fun w=>Gh w⟩
  by_cases k37:op=37
  .subst k37;exact⟨_,_,_,_,_,⟨rfl,rfl,rfl,rfl⟩,fun w=>Gi w⟩
  omega

section
variable {P : Program} (w : World)
end
section
variable {P : Program} (w : World)
end
section
variable {P : Program} (w : World)
end


theorem Dr(a:Int)(k:Nat)(hk:k<64)(h0:0<=a)(h1:a<18446744073709551616):bits .and .u64 a ((2^k-1:Nat):Int)=a%((2^k:Nat):Int):=by
 have hp:2^k<2^64:=Nat.pow_lt_pow_right oM hk;have hq:0<2^k:=Nat.two_pow_pos k;obtain⟨n,rfl⟩:=Int.eq_ofNat_of_zero_le h0;rw[u64_and _ _ h0 h1 oM oM,Int.toNat_natCast,Int.toNat_natCast,Nat.and_two_pow_sub_one_eq_mod];rfl
theorem IK(a:Int)(h0:0<=a)(h1:a<18446744073709551616):bits .and .u64 a 255=a%256:=Dr a 8 dE h0 h1
theorem H5(a:Int)(h0:0<=a)(h1:a<18446744073709551616):bits .and .u64 a 8388607=a%8388608:=Dr a 23 dE h0 h1
def Kh(a:Int):Bool:=a/2147483648==1
def nM(a:Int):Int:=if a/8388608%256=255 then 0 else if a/8388608%256=0 then a%8388608 else 8388608+a%8388608
def nE(a:Int):Int:=if a/8388608%256=255 then 0 else if a/8388608%256=0 then -149 else a/8388608%256-150
def Fk(a:Int):Bool:=if a/8388608%256=255 then a%8388608==0 else false
def DQ(a:Int):Bool:=if a/8388608%256=255 then a%8388608 != 0 else false
theorem Jc(a:Int)(h0:0<=a)(h1:a<4294967296)(w:World):
 Calls prog 81 #[.int .i64 a] w fun e w'=>e=.returned (.agg #[.bool (Kh a),.int .u64 (nM a),.int .i64 (nE a),.bool (Fk a),.bool (DQ a)])/\∃o,w'=(w.alloc o).alloc o:=by
 have e1:=IK (a/8388608) oM oM;have e2:=H5 a h0 oM;by_cases c:a/8388608%256=255
 .have f1:nM a=0:=by unfold nM;rw[if_pos c]
  have f2:nE a=0:=by unfold nE;rw[if_pos c]
  have f3:Fk a=(a%8388608==0):=by unfold Fk;rw[if_pos c]
  have f4:DQ a=(a%8388608 != 0):=by unfold DQ;rw[if_pos c]
  exact Lk
 .by_cases c2:a/8388608%256=0
  .have f1:nM a=a%8388608:=by unfold nM;rw[if_neg c,if_pos c2]
   have f2:nE a= -149:=by unfold nE;rw[if_neg c,if_pos c2]
   have f3:Fk a=false:=by unfold Fk;rw[if_neg c]
   have f4:DQ a=false:=by unfold DQ;rw[if_neg c]
   exact Lk
  .have f1:nM a=8388608+a%8388608:=by unfold nM;rw[if_neg c,if_neg c2]
   have f2:nE a=a/8388608%256-150:=by unfold nE;rw[if_neg c,if_neg c2]
   have f3:Fk a=false:=by unfold Fk;rw[if_neg c]
   have f4:DQ a=false:=by unfold DQ;rw[if_neg c]
   exact Lk

theorem Hd(a:Int)(h0:0<=a)(h1:a<4294967296):DQ a=Fm a:=by
 unfold DQ Fm;by_cases c:a/8388608%256=255
 .rw[if_pos c];by_cases d:a%8388608=0
  .have:¬ (2139095040<a%2147483648):=oM;simp[d,this]
  .have:2139095040<a%2147483648:=oM;simp[d,this]
 .rw[if_neg c];have:¬ (2139095040<a%2147483648):=oM;simp[this]
theorem Gu(w:World)(v0 v1 v2 v3 v4:Value):(Instr.field 128 (.agg #[v0,v1,v2,v3,v4]) 4).run prog w=.ok v4 w:=by
 simp[Instr.field,run_underlying underlying128,asAgg,part,go_sem]
theorem ED(a:Int)(h0:0<=a)(h1:a<4294967296)(w:World):
 Calls prog 70 #[.int .i64 a] w fun e w'=>e=.returned (.int .i64 (Bq a))/\Below w.heap.size w w':=by
 have hf:=Gu;unfold Bq;rw[<-Hd a h0 h1];cases hna:DQ a
 .rw[if_neg dE];exact M0
 .rw[if_pos rfl];exact M0
def Ir:Wk->List Av->Wk
 |s,[]=>s
 |s,i::r=>Ir (Am s i) r
def BO(c:Cd):Wk->List Av->Bool
 |_,[]=>true
 |s,i::r=>AD c s i&&BO c (Am s i) r
theorem Hb{c:Cd}:∀ {l:List Av} {s:Wk} {k:Nat},(DM c s k l).1=0↔BO c s l=true/\(Ir s l).opens.isEmpty=true
 |[],s,k=>by
  simp only[DM,BO,Ir,true_and];by_cases h:s.opens.isEmpty=true
  .simp[h]
  .simp[h]
 |i::l,s,k=>by
  simp only[DM,BO,Ir,Bool.and_eq_true];by_cases h:AD c s i=true
  .rw[if_pos h,Hb (k:=k+1)];simp[h]
  .rw[if_neg h];simp[h]
theorem AT{c:Cd}:(Ae c).1=0↔AZ c=0/\BO c ⟨[],[]⟩ c.list=true/\(Ir ⟨[],[]⟩ c.list).opens.isEmpty=true:=by
 unfold Ae;by_cases h:AZ c=0
 .rw[if_neg (by simp[h]),Hb];simp[h]
 .rw[if_pos h];simp[h]
def Dk(S:List Nat)(i:Av):List Nat:=if(Aa i.op).d≠0/\i.d.toNat∉S then S++[i.d.toNat]else S
theorem Fo:∀ {r:List Bk} {n:Nat},JY n r->∀b∈r,b.ahead<=n
 |[],_,_,b,hb=>absurd hb sM
 |a::r,n,h,b,hb=>by
  rcases List.mem_cons.1 hb with rfl|hb
  .exact h.1
  .exact gH (Fo h.2 b hb) h.1
theorem DS{s:Wk}{i:Av}(h:(Aa i.op).d=0):Em s i (Aa i.op)=s:=by unfold Em;rw[if_neg (fun e=>e.1 h)]
theorem FL{S:List Nat}{i:Av}{x:Nat}:x∈Dk S i↔x∈S\/((Aa i.op).d≠0/\x=i.d.toNat):=by
 unfold Dk;by_cases h:(Aa i.op).d≠0/\i.d.toNat∉S
 .rw[if_pos h,List.mem_append];simp only[List.mem_singleton];exact⟨fun q=>q.imp id fun e=>⟨h.1,e⟩,fun q=>q.imp id fun e=>e.2⟩
 .rw[if_neg h];constructor
  .exact .inl
  .rintro(q|⟨q1,q2⟩)
   .exact q
   .rw[q2];exact Decidable.byContradiction fun e=>h ⟨q1,e⟩
def B8(ps:List AR)(t:Ty):Int:=if t.kind≠3 then 1 else if Ab t.par ps.length=true then((ps[t.par.toNat]?).map fun p=>p.len).getD 0 else 0
def B3(c:Cd)(i:Av):Int:=
 if i.op=16 then 62
 else if At i.op=true\/i.op=29\/i.op=30\/i.op=32 then B8 c.sign (Ag c.regs i.d)
 else if i.op=31\/i.op=33\/i.op=19\/i.op=20 then B8 c.sign (Ag c.regs i.a)
 else 1
def AV(c:Cd):List Av->Int
 |[]=>0
 |i::l=>B3 c i+AV c l
def Bx(c:Cd):Int:=AV c c.list
def Bj(c:Cd):Int:=(c.regs.map fun t=>B8 c.sign t).sum+(c.slots.map fun s=>B8 c.sign s.ty).sum
theorem DU(c:Cd):∀l m:List Av,AV c (l++m)=AV c l+AV c m
 |[],m=>by simp[AV]
 |i::l,m=>by simp only[List.cons_append,AV,DU c l m];omega
theorem Ak{n:Int}{k:Nat}:Ab n k=true↔0<=n/\n<(k:Int):=by unfold Ab;simp
theorem Iw{ps:List AR}(h:Ao ps=0):∀p∈ps,AQ p=true:=by
 unfold Ao at h;split at h
 .exact absurd h dE
 .split at h
  .exact absurd h dE
  .rename_i h2;intro p hp;have h3:ps.all AQ=true:=by simpa using h2
   exact List.all_eq_true.1 h3 p hp
theorem IZ{p:AR}(h:AQ p=true):1<=p.len/\p.len<=4096:=by
 unfold AQ at h;simp only[Bool.and_eq_true,decide_eq_true_eq]at h;exact h.2
theorem Ek{ps:List AR}{t:Ty}(hs:Ao ps=0)(ht:Aj t ps.length=true):1<=B8 ps t/\B8 ps t<=4096:=by
 unfold B8;by_cases h3:t.kind=3
 .rw[if_neg (by simp[h3])];unfold Aj at ht;rw[if_neg oM,if_pos h3]at ht;rw[if_pos ht];obtain⟨h0,h1⟩:=Ak.1 ht;have hl:t.par.toNat<ps.length:=oM;rw[gB hl];exact IZ (Iw hs _ (gD hl))
 .rw[if_pos h3];omega
theorem EG{c:Cd}{n:Int}(ht:Ac c=true)(hn:Ab n c.regs.length=true):Aj (Ag c.regs n) c.sign.length=true:=by
 obtain⟨h0,h1⟩:=Ak.1 hn;have hl:n.toNat<c.regs.length:=oM;unfold Ag;rw[if_pos hn,gB hl];exact List.all_eq_true.1 ht _ (gD hl)
theorem E8{rs:List Ty}{l n:Int}{m:Ty}(h:A8 rs l n m=true)(hl:l≠0):Ab n rs.length=true:=by
 unfold A8 at h;rw[if_neg hl]at h;simp only[Bool.and_eq_true]at h;exact h.1
theorem Ig:∀n:Nat,n<38->(At (n:Int)=true\/(n:Int)=29\/(n:Int)=30\/(n:Int)=32)->(Aa (n:Int)).d≠0:=by decide+kernel
theorem If:∀n:Nat,n<38->((n:Int)=31\/(n:Int)=33\/(n:Int)=19\/(n:Int)=20)->(Aa (n:Int)).a≠0:=by decide+kernel
structure Tk(c:Cd)(s:Wk)(i:Av):Prop where
 known:1<=i.op/\i.op<=37
 d:A8 c.regs (Aa i.op).d i.d (Al c.regs i (Aa i.op))=true
 a:A8 c.regs (Aa i.op).a i.a (Al c.regs i (Aa i.op))=true
 b:A8 c.regs (Aa i.op).b i.b (Al c.regs i (Aa i.op))=true
 e:A8 c.regs (Aa i.op).c i.c (Al c.regs i (Aa i.op))=true
 n:B4 c i (Aa i.op).n (Al c.regs i (Aa i.op))=true
 stand:Aq c s i (Aa i.op)=true
 read:D7 s i (Aa i.op)=true
theorem ID{c:Cd}{s:Wk}{i:Av}:AD c s i=true↔Tk c s i:=by
 unfold AD AG An;simp only[Bool.and_eq_true,decide_eq_true_eq];exact⟨fun⟨k,⟨d,a,b,e,n⟩,st,r⟩=>⟨k,d,a,b,e,n,st,r⟩,fun h=>⟨h.known,⟨h.d,h.a,h.b,h.e,h.n⟩,h.stand,h.read⟩⟩
theorem JU{c:Cd}{s:Wk}{i:Av}(hs:Ao c.sign=0)(ht:Ac c=true)(h:Tk c s i):1<=B3 c i/\B3 c i<=4096:=by
 obtain⟨N,hN⟩:∃N:Nat,i.op=(N:Int):=⟨i.op.toNat,by have:=h.known;omega⟩
 have hN2:N<38:=by have:=h.known;omega
 unfold B3;by_cases h1:i.op=16
 .rw[if_pos h1];omega
 .rw[if_neg h1];by_cases h2:At i.op=true\/i.op=29\/i.op=30\/i.op=32
  .rw[if_pos h2];refine Ek hs (EG ht (E8 h.d ?_));rw[hN]at h2 |-;exact Ig N hN2 h2
  .rw[if_neg h2];by_cases h3:i.op=31\/i.op=33\/i.op=19\/i.op=20
   .rw[if_pos h3];refine Ek hs (EG ht (E8 h.a ?_));rw[hN]at h3 |-;exact If N hN2 h3
   .rw[if_neg h3];omega
theorem E4{c:Cd}(hs:Ao c.sign=0)(ht:Ac c=true):∀ (l:List Av) (s:Wk),BO c s l=true->∀i∈l,1<=B3 c i/\B3 c i<=4096
 |[],s,_,i,hi=>by cases hi
 |j::l,s,h,i,hi=>by
  simp only[BO,Bool.and_eq_true]at h;rcases List.mem_cons.1 hi with e|e
  .rw[e];exact JU hs ht (ID.1 h.1)
  .exact E4 hs ht l _ h.2 i e
structure Ah(c:Cd):Prop where
 sign:Ao c.sign=0
 regs:c.regs.length<=16384
 list:c.list.length<=32768
 slots:c.slots.length<=4096
 types:Ac c=true
 begun:AE c=true
theorem C6{c:Cd}:AZ c=0↔Ah c:=by
 unfold AZ;by_cases h0:Ao c.sign=0
 .rw[if_neg (by simp[h0])];by_cases h1:16384<c.regs.length\/32768<c.list.length
  .rw[if_pos h1];exact⟨fun h=>absurd h dE,fun h=>by have:=h.regs;have:=h.list;omega⟩
  .rw[if_neg h1];by_cases h2:4096<c.slots.length
   .rw[if_pos h2];exact⟨fun h=>absurd h dE,fun h=>by have:=h.slots;omega⟩
   .rw[if_neg h2];by_cases h3:(Ac c&&AE c)=true
    .rw[if_pos h3];simp only[Bool.and_eq_true]at h3;exact⟨fun _=>⟨h0,oM,oM,oM,h3.1,h3.2⟩,fun _=>rfl⟩
    .rw[if_neg h3];exact⟨fun h=>absurd h dE,fun h=>absurd (by rw[h.types,h.begun];rfl) h3⟩
 .rw[if_pos h0];exact⟨fun h=>absurd h h0,fun h=>absurd h.sign h0⟩
theorem DI{c:Cd}(hc:(Ae c).1=0):∀i∈c.list,1<=B3 c i/\B3 c i<=4096:=by
 obtain⟨h1,h2,h3⟩:=AT.1 hc;have hA:=C6.1 h1;exact E4 hA.sign hA.types c.list _ h2
theorem Ev{c:Cd}:∀ (l:List Av),(∀i∈l,1<=B3 c i/\B3 c i<=4096)->(l.length:Int)<=AV c l/\AV c l<=4096*(l.length:Int)
 |[],_=>by simp[AV]
 |i::l,h=>by
  have h1:=h i sM;have h2:=Ev l (fun j hj=>h j (List.mem_cons_of_mem _ hj));simp only[AV,List.length_cons];omega
end Go.Proofs.Ytjglaibglofddaa
