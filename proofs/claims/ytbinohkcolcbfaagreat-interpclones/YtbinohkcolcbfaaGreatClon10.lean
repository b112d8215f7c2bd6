import Derived.Test.YtbinohkcolcbfaaGreatClon1
import Derived.Test.YtbinohkcolcbfaaGreatClon8
import Derived.Deep.CutBlock
import Derived.Test.YtbinohkcolcbfaaGreatClon5
import Derived.Test.YtbinohkcolcbfaaGreatClon7
namespace Go.Proofs.YtbinohkcolcbfaaGreat
open Go.RowKit Go.Proofs.Tryz
set_option linter.all false
set_option maxRecDepth 100000
set_option maxHeartbeats 16000000
structure PS(E G C n gi H:Nat)(L0:Int)(w:World)(t:Wk)(vs vo:Value)(v:World):Prop where
 bel:Below E w v
 st:WS E G C n gi vs vo v t
 box:v.cell? ⟨H,0,none⟩=some (.int .i64 L0)
 n1:H≠G
 n2:H≠gi
theorem U5(E G C n gi:Nat)(vs vo:Value)(s:Wk)(b o:Nat)(i:Au)(r:Rw)(w:World)(h:WS E G C n gi vs vo w s)(ok:Dm n s)(hn:n<=16384)(hi:Aa w b o (DP i))(hbE:b<E)
 (hm:i.op=34\/i.op=36->s.opens.length<64) (he:i.op=35\/i.op=37->s.opens≠[]) (hd:r.d≠0->0<=i.d/\i.d<(n:Int)):
 Calls prog 57 #[.pointer (some ⟨G,0,none⟩),.pointer (some ⟨b,o,none⟩),Dh r] w fun e w'=>e=.returned (.tuple #[])/\Below E w w'/\∃vs' vo',WS E G C n gi vs' vo' w' (Fk s i r):=by
 have e0:=hi.at 0 rfl;have e1:=hi.at 1 rfl;have e5:=hi.at 5 rfl;rw[Nat.add_zero]at e0;have hok:Dm n (E8 s i):=ok.turn hm;unfold Fk;have htu:E8 s i=if i.op=34\/i.op=36 then⟨s.set,⟨i.op==36,i.n,s.set.length⟩::s.opens⟩else if i.op=35\/i.op=37 then AM s else s:=rfl;obtain⟨T,hT⟩:∃T,E8 s i=T:=⟨_,rfl⟩
 rw[hT]at hok htu ⊢;have HT:Hid (T=if i.op=34\/i.op=36 then⟨s.set,⟨i.op==36,i.n,s.set.length⟩::s.opens⟩else if i.op=35\/i.op=37 then AM s else s):=htu;clear htu hT;have had:FJ T i r=if r.d≠0/\i.d.toNat∉T.set then⟨T.set++[i.d.toNat],T.opens⟩else T:=rfl;obtain⟨R,hR⟩:∃R,FJ T i r=R:=⟨_,rfl⟩
 rw[hR]at had ⊢;have HR:Hid (R=if r.d≠0/\i.d.toNat∉T.set then⟨T.set++[i.d.toNat],T.opens⟩else T):=had;clear had hR hi;have HOK:Hid (Dm n T):=hok;obtain⟨io,D,A,B,F,N,bt⟩:=i;obtain⟨L0,L1,L2,L3,L4⟩:=r;simp only at e0 e1 e5 hm he hd HT HR hok;unfold Dh;have HD:Hid (L0≠0->0<=D/\D<(n:Int)):=hd;have HS:Hid (WS E G C n gi vs vo w s):=h;have HS1:Hid (WS E G C n gi vs vo (w.alloc (.cells #[.int .i64 L0,.int .i64 L1,.int .i64 L2,.int .i64 L3,.int .i64 L4] 134)) s):=h.below (A0 _ _);have hE:=h.lt;have hG:=h.g.lt;have hgi:=h.i.lt;have nG:G≠w.heap.size:=oM;have ngi:gi≠w.heap.size:=oM;have nbG:b≠G:=by have:=h.hG;omega
 have nbi:b≠gi:=by have:=h.hgi;omega
 have hbw:b≠w.heap.size:=oM;have nGb:G≠b:=Ne.symm nbG;have nib:gi≠b:=Ne.symm nbi;have niG:gi≠G:=h.n1;have nGi:G≠gi:=Ne.symm h.n1;have HB1:Hid (Below E w (w.alloc (.cells #[.int .i64 L0,.int .i64 L1,.int .i64 L2,.int .i64 L3,.int .i64 L4] 134))):=(Below.refl E w).alloc hE _;have HE:Hid (∀v,Below E w v->v.cell? ⟨b,o,none⟩=some (.int .i64 io)/\v.cell? ⟨b,o+1,none⟩=some (.int .i64 D)/\v.cell? ⟨b,o+5,none⟩=some (.int .i64 N)):=fun v hv=>⟨(hv.cell hbE).trans e0,(hv.cell hbE).trans e1,(hv.cell hbE).trans e5⟩
 have HVB:Hid ((w.alloc (.cells #[.int .i64 L0,.int .i64 L1,.int .i64 L2,.int .i64 L3,.int .i64 L4] 134)).cell? ⟨w.heap.size,0,none⟩=some (.int .i64 L0)):=by show _=_;simp[go_sem]
 obtain⟨z0,z1,z5⟩:=HE.out _ HB1.out;have HOS:Hid (Dm n s):=ok;have HM:Hid (io=34\/io=36->s.opens.length<64):=hm;have HQ:Hid (io=35\/io=37->s.opens≠[]):=he;clear hd h hok hm he ok e0 e1 e5;go_enter func57,ntmps57;go_upto_block 0 with fail;obtain⟨V,hV⟩:∃V,w.alloc (.cells #[.int .i64 L0,.int .i64 L1,.int .i64 L2,.int .i64 L3,.int .i64 L4] 134)=V:=⟨_,rfl⟩
 have hVs:V.heap.size=w.heap.size+1:=by rw[←hV];simp
 rw[hV]at HS1 HB1 HVB z0 z1 z5 ⊢;have HVS:Hid (V.heap.size=w.heap.size+1):=hVs;clear hV hVs;go_cut [10] (fun bv wx=>∃vs1 vo1,PS E G C n gi w.heap.size L0 w T vs1 vo1 wx)
 case first=>
  have c2:=HS1.out.c2;have c3:=HS1.out.c3;by_cases h34:io=34
  ·have q1:(io==34)=true:=by simpa using h34
   have q2:(io==36)=false:=by have:io≠36:=oM;simpa using this
   obtain⟨g,cap,w3,hr,hb3,c33,f33,c32,hfar,hw3⟩:=M5 HS1.out.x (by have:=HM.out (.inl h34);omega) false N s.set.length;have HT1:Hid (T=⟨s.set,⟨false,N,s.set.length⟩::s.opens⟩):=by show _=_;rw[HT.out,if_pos (.inl h34)];rw[show(io==36)=false from q2]
   obtain⟨pS,cS,hvs⟩:=Bl HS1.out.set;obtain⟨y0,y1,y5⟩:=HE.out w3 (HB1.out.trans hb3);have HP:Hid (PS E G C n gi w.heap.size L0 w T vs (.slice (some ⟨g,0,none⟩) (s.opens.length+1) cap) (w3.setCell ⟨G,3,none⟩ (.slice (some ⟨g,0,none⟩) (s.opens.length+1) cap))):=by
    refine⟨(HB1.out.trans hb3).setCell HS.out.hG _,?_,?_,oM,oM⟩
    ·rw[HT1.out];exact WX.st (s:=⟨s.set,⟨false,N,s.set.length⟩::s.opens⟩) hw3 fun j _=>rfl
    ·exact Zdo
   have HR3:Hid ((Builtin.append_ #[101,101] 101 #[vo,.slice (some ⟨V.heap.size,0,none⟩) 1 1]).run prog ((V.alloc (.cells #[.bool false,.int .i64 N,.int .i64 (s.set.length:Int)] 175)).drew)=.ok (.slice (some ⟨g,0,none⟩) (s.opens.length+1) cap) w3):=hr;subst hvs;have c5:(w3.setCell ⟨G,3,none⟩ (.slice (some ⟨g,0,none⟩) (s.opens.length+1) cap)).cell? ⟨G,2,none⟩=some (.slice pS s.set.length cS):=by rw[World.cell?_setCell_other _ _ _ _ sM];exact c32
   have nG2:G≠V.heap.size:=by have:=HVS.out;omega
   have c4:(V.alloc (.cells #[.bool false,.int .i64 N,.int .i64 (s.set.length:Int)] 175)).cell? ⟨G,3,none⟩=some vo:=kc (A0 _ _) c3;have nb2:b≠V.heap.size:=by have:=HVS.out;omega
   clear hr hb3 hfar hw3 h34;exact Zbb
  by_cases h36:io=36
  ·have q1:(io==34)=false:=by simpa using h34
   have q2:(io==36)=true:=by simpa using h36
   obtain⟨g,cap,w3,hr,hb3,c33,f33,c32,hfar,hw3⟩:=M5 HS1.out.x (by have:=HM.out (.inr h36);omega) true N s.set.length;have HT1:Hid (T=⟨s.set,⟨true,N,s.set.length⟩::s.opens⟩):=by show _=_;rw[HT.out,if_pos (.inr h36)];rw[show(io==36)=true from q2]
   obtain⟨pS,cS,hvs⟩:=Bl HS1.out.set;obtain⟨y0,y1,y5⟩:=HE.out w3 (HB1.out.trans hb3);have HP:Hid (PS E G C n gi w.heap.size L0 w T vs (.slice (some ⟨g,0,none⟩) (s.opens.length+1) cap) (w3.setCell ⟨G,3,none⟩ (.slice (some ⟨g,0,none⟩) (s.opens.length+1) cap))):=by
    refine⟨(HB1.out.trans hb3).setCell HS.out.hG _,?_,?_,oM,oM⟩
    ·rw[HT1.out];exact WX.st (s:=⟨s.set,⟨true,N,s.set.length⟩::s.opens⟩) hw3 fun j _=>rfl
    ·exact Zdo
   have HR3:Hid ((Builtin.append_ #[101,101] 101 #[vo,.slice (some ⟨V.heap.size,0,none⟩) 1 1]).run prog ((V.alloc (.cells #[.bool true,.int .i64 N,.int .i64 (s.set.length:Int)] 175)).drew)=.ok (.slice (some ⟨g,0,none⟩) (s.opens.length+1) cap) w3):=hr;subst hvs;have c5:(w3.setCell ⟨G,3,none⟩ (.slice (some ⟨g,0,none⟩) (s.opens.length+1) cap)).cell? ⟨G,2,none⟩=some (.slice pS s.set.length cS):=by rw[World.cell?_setCell_other _ _ _ _ sM];exact c32
   have nG2:G≠V.heap.size:=by have:=HVS.out;omega
   have c4:(V.alloc (.cells #[.bool true,.int .i64 N,.int .i64 (s.set.length:Int)] 175)).cell? ⟨G,3,none⟩=some vo:=kc (A0 _ _) c3;have nb2:b≠V.heap.size:=by have:=HVS.out;omega
   clear hr hb3 hfar hw3 h34 h36;exact Zbb
  have q1:(io==34)=false:=by simpa using h34
  have q2:(io==36)=false:=by simpa using h36
  have hno:¬ (io=34\/io=36):=fun e=>e.elim h34 h36;by_cases h35:io=35\/io=37
  ·have HT1:Hid (T=AM s):=by show _=_;rw[HT.out,if_neg hno,if_pos h35]
   have HK:Hid (Calls prog 98 #[.pointer (some ⟨G,0,none⟩)] V fun e w'=>e=.returned (.tuple #[])/\Below E V w'/\(∀k,k<V.heap.size->k≠G->k≠gi->w'.heap[k]? =V.heap[k]?)/\∃vs' vo',WS E G C n gi vs' vo' w' (AM s)):=Rj E G C n gi vs vo s V HS1.out HOS.out hn (HQ.out h35);rcases h35 with h|h
   ·have q3:(io==35)=true:=by simpa using h
    exact Zcm
   ·have q3:(io==35)=false:=by have:io≠35:=oM;simpa using this
    have q4:(io==37)=true:=by simpa using h
    exact Zcm
  ·have HT1:Hid (T=s):=by show _=_;rw[HT.out,if_neg hno,if_neg h35]
   have q3:(io==35)=false:=by have:io≠35:=(fun e=>h35 (.inl e));simpa using this
   have q4:(io==37)=false:=by have:io≠37:=(fun e=>h35 (.inr e));simpa using this
   have HP:Hid (PS E G C n gi w.heap.size L0 w T vs vo V):=⟨HB1.out,by rw[HT1.out];exact HS1.out,HVB.out,oM,oM⟩
   clear h34 h35 h36 hno;go_wp2;go_meet;exact⟨_,_,HP.out⟩
 case rest=>
  obtain⟨vs1,vo1,ps⟩:=hcut;clear HS1 HB1 HVB z0 z1 z5 HVS HS HOS HM HQ HT;have HPS:Hid (PS E G C n gi w.heap.size L0 w T vs1 vo1 wc):=ps;have bx:=ps.box;have d1:=ps.st.c1;have hX:=ps.st.i;obtain⟨y0,y1,y5⟩:=HE.out wc ps.bel;clear ps;by_cases hz:L0=0
  ·have hz':(L0 != 0)=false:=by simpa using hz
   have hz2:(L0==0)=true:=by simpa using hz
   have HR1:Hid (R=T):=by show _=_;rw[HR.out,if_neg (fun e=>e.1 hz)]
   clear hz;go_wp2;refine rG (fun v=>v.cell? ⟨w.heap.size,0,none⟩=some (.int .i64 L0)) fun hHeld=>?_;refine Tc 0 1 2 ?_;refine AI 3 ?_;refine Kd 4 5 6 7 ?_;refine Kd 8 9 10 11 ?_;refine D7 12 ?_;refine D7 13 ?_;refine D7 14 ?_;refine AI 15 ?_;refine wpAnyH_done kR ?_ _;go_wp2;first|go_end0|(simp only[Exit.inBlock,Exit.then];refine bodyPost_ret (results_none rfl _ _ _) rfl ?_)|refine bodyPost_ret (results_none rfl _ _ _) rfl ?_
   exact⟨rfl,HPS.out.bel.drew,_,_,by rw[HR1.out];exact HPS.out.st.below (A5 _)⟩
  ·have hz':(L0 != 0)=true:=by simpa using hz
   have hz2:(L0==0)=false:=by simpa using hz
   obtain⟨hD0,hDn⟩:=HD.out hz;obtain⟨x,rfl⟩:∃x:Nat,D=(x:Int):=⟨D.toNat,oM⟩
   have hxn:x<n:=oM;have v1:=hX.cell hxn;have v2:=hX.frozen x;rw[Int.toNat_natCast]at HR;have HR1:Hid (R=if x∉T.set then⟨T.set++[x],T.opens⟩else T):=by
    show _=_;rw[HR.out];by_cases hx:x∈T.set
    ·rw[if_neg (fun e=>e.2 hx),if_neg (fun e=>e hx)]
    ·rw[if_pos ⟨hz,hx⟩,if_pos hx]
   clear hX HR hz;by_cases hx:x∈T.set
   ·have hdec:decide (x∈T.set)=true:=by simpa using hx
    have HR2:Hid (R=T):=by show _=_;rw[HR1.out,if_neg (fun e=>e hx)]
    rw[hdec]at v1;clear HR1 hx;go_wp2;refine rG (fun v=>v.cell? ⟨w.heap.size,0,none⟩=some (.int .i64 L0)/\v.cell? ⟨b,o+1,none⟩=some (.int .i64 (x:Int))/\v.cell? ⟨G,1,none⟩=some (.slice (some ⟨gi,0,none⟩) n n)/\v.cell? ⟨gi,x,none⟩=some (.bool true)) fun hHeld=>?_;refine Tf 0 1 2 3 4 5 ?_;refine Tf 6 7 8 9 10 11 ?_;refine Tc 12 13 14 ?_;refine AI 15 ?_;refine wpAnyH_done kR ?_ _;go_wp2;first|go_end0|(simp only[Exit.inBlock,Exit.then];refine bodyPost_ret (results_none rfl _ _ _) rfl ?_)|refine bodyPost_ret (results_none rfl _ _ _) rfl ?_
    exact⟨rfl,HPS.out.bel.drew,_,_,by rw[HR2.out];exact HPS.out.st.below (A5 _)⟩
   ·have hdec:decide (x∈T.set)=false:=by simpa using hx
    have HR2:Hid (R=⟨T.set++[x],T.opens⟩):=by show _=_;rw[HR1.out,if_pos hx]
    rw[hdec]at v1;have HNX:Hid (x∉T.set):=hx;clear HR1 hx;obtain⟨V2,hV2⟩:∃V2,(wc.setCell ⟨gi,x,none⟩ (.bool true)).drew.drew=V2:=⟨_,rfl⟩
    have HV2:Hid ((wc.setCell ⟨gi,x,none⟩ (.bool true)).drew.drew=V2):=hV2;have hW2:WX E G C n gi vs1 vo1 V2 T.set T.opens (fun j=>if j=x then true else decide (j∈T.set)):=by rw[←hV2];exact((HPS.out.st.x.put x true).below (A5 _)).below (A5 _)
    have hB2:Below E w V2:=by rw[←hV2];exact(HPS.out.bel.setCell HPS.out.st.hgi _).drew.drew
    obtain⟨g,cap,w3,hr,hb3,c32,f32,hw3⟩:=We hW2 (Nat.le_trans HOK.out.len hn) x;have HR3:Hid ((Builtin.append_ #[82,82] 82 #[vs1,.slice (some ⟨V2.heap.size,0,none⟩) 1 1]).run prog ((V2.alloc (.cells #[.int .i64 (x:Int)] 3)).drew)=.ok (.slice (some ⟨g,0,none⟩) (T.set.length+1) cap) w3):=hr;obtain⟨_,u1,_⟩:=HE.out V2 hB2;obtain⟨_,u3,_⟩:=HE.out w3 (hB2.trans hb3);have u2:=hW2.c2;have u4:(V2.alloc (.cells #[.int .i64 (x:Int)] 3)).cell? ⟨G,2,none⟩=some vs1:=kc (A0 _ _) u2;have nG3:G≠V2.heap.size:=by have:=hW2.g.lt;omega
    have nb3:b≠V2.heap.size:=by have:=hW2.g.lt;have:=hW2.hG;omega
    have HF:Hid (Below E w (w3.setCell ⟨G,2,none⟩ (.slice (some ⟨g,0,none⟩) (T.set.length+1) cap))/\WS E G C n gi (.slice (some ⟨g,0,none⟩) (T.set.length+1) cap) vo1 (w3.setCell ⟨G,2,none⟩ (.slice (some ⟨g,0,none⟩) (T.set.length+1) cap)) R):=by
     refine⟨(hB2.trans hb3).setCell hW2.hG _,?_⟩;rw[HR2.out];refine WX.st (s:=⟨T.set++[x],T.opens⟩) hw3 fun j _=>?_;by_cases hj:j=x
     ·subst hj;simp
     ·rw[if_neg hj];simp[hj]
    have i5:(0:Int)<=(x:Int):=oM;have i6:(x:Int)<(n:Int):=oM;clear hr hb3 hw3 hW2 hB2 hV2;go_wp2;refine rG (fun v=>v.cell? ⟨w.heap.size,0,none⟩=some (.int .i64 L0)/\v.cell? ⟨b,o+1,none⟩=some (.int .i64 (x:Int))/\v.cell? ⟨G,1,none⟩=some (.slice (some ⟨gi,0,none⟩) n n)/\v.cell? ⟨gi,x,none⟩=some (.bool false)) fun hHeld=>?_;refine Tf 0 1 2 3 4 5 ?_;refine Tf 6 7 8 9 10 11 ?_;refine Tc 12 13 14 ?_;refine AI 15 ?_;refine wpAnyH_done kR ?_ _;go_wp2;refine rG (fun v=>v.cell? ⟨b,o+1,none⟩=some (.int .i64 (x:Int))/\v.cell? ⟨G,1,none⟩=some (.slice (some ⟨gi,0,none⟩) n n)) fun hHeld=>?_;refine Tf 0 1 2 3 4 5 ?_;refine Tc 6 7 8 ?_;clear hHeld;refine Ao 9 fun K hK=>?_;go_simp;refine An hK fun hHeld=>?_;clear hK K;refine wpAnyH_done kR ?_ _;go_wp2;rw[HV2.out];refine rG (fun v=>v.cell? ⟨b,o+1,none⟩=some (.int .i64 (x:Int))) fun hHeld=>?_;refine Tf 0 1 2 3 5 6 ?_;refine Tb 7 8 ?_;clear hHeld;refine wpAnyH_ready (rs:=[4,9]) kR sM ?_;refine Hp 4 (fun K hK=>?_) ?_
    ·go_simp;refine An hK fun hHeld=>?_;clear hK K;clear hHeld;refine Ao 9 fun K hK=>?_;exact Zcb
    refine Hp 9 (fun K hK=>?_) AllReadyH.nil;go_simp;refine An hK fun hHeld=>?_;clear hK K;clear hHeld;refine Ao 4 fun K hK=>?_;exact Zcb
theorem Mf(a b:Int)(h0:0<=a)(h1:a<4294967296)(g0:0<=b)(g1:b<4294967296)(h:BC a=true\/BC b=true):EF a b=2143289344:=by
 rcases h with h|h
 ·obtain⟨s,t,e⟩:=EO a h0 h1 h;rw[DU a b e rfl];cases Ieee.single.read b.toNat<;>rfl
 ·obtain⟨s,t,e⟩:=EO b g0 g1 h;rw[DU a b rfl e];cases Ieee.single.read a.toNat<;>rfl
theorem Pd(s:Bool):((Ieee.single.write (.number s 0 0):Nat):Int)=GF s:=by cases s<;>decide
theorem XH(A B:Int)(h1:8388608<=A)(h2:A<16777216)(h3:8388608<=B)(h4:B<16777216):0<=A*274877906944/B/\A*274877906944/B<1099511627776/\0<=A*274877906944%B/\A*274877906944%B<16777216:=by
 have e:=Int.mul_ediv_add_emod (A*274877906944) B;have r0:=Int.emod_nonneg (A*274877906944) (show B≠0 by omega);have r1:=Int.emod_lt_of_pos (A*274877906944) (show 0<B by omega);have q0:0<=A*274877906944/B:=Int.ediv_nonneg oM oM;refine⟨q0,?_,r0,oM⟩;apply Int.ediv_lt_of_lt_mul oM;omega
theorem Ub(a:Int)(h0:0<=a)(h1:a<4294967296)(b:Int)(g0:0<=b)(g1:b<4294967296)(w:World):
 Calls prog 184 #[.int .i64 a,.int .i64 b] w fun e w'=>e=.returned (.int .i64 (EF a b))/\Below w.heap.size w w':=by
 cases hna:BC a
 ·cases hnb:BC b
  ·cases hia:De a
   ·obtain⟨ra,a1,a2,a3,a4,a5⟩:=BD a h0 h1 hia hna;cases hib:De b
    ·obtain⟨rb,b1,b2,b3,b4,b5⟩:=BD b g0 g1 hib hnb;by_cases zb:nM b=0
     ·by_cases za:nM a=0
      ·have hv:EF a b=2143289344:=by rw[DU a b ra rb,za,zb];rfl
       rw[hv];clear hv ra rb;exact W6
      ·have hv:EF a b=GF (AU a != AU b)+2139095040:=by
        rw[DU a b ra rb,zb,←BU,←Dq];have:(nM a).toNat≠0:=oM;simp only[Ieee.Datum.quotient,if_neg this,Int.toNat_zero,if_true];rfl
       rw[hv];clear hv ra rb;exact W6
     ·by_cases za:nM a=0
      ·have hv:EF a b=GF (AU a != AU b):=by
        rw[DU a b ra rb,za,←Dq];have:(nM b).toNat≠0:=oM;simp only[Ieee.Datum.quotient,if_neg this,Int.toNat_zero,Nat.zero_shiftLeft,Nat.zero_div,Nat.zero_mod];exact FA _ _
       rw[hv];clear hv ra rb;exact W6
      ·obtain⟨ka,A1,A2⟩:=Eu (nM a) oM a2;obtain⟨kb,B1,B2⟩:=Eu (nM b) oM b2;obtain⟨A,hA⟩:∃A,nM a*2^nk (nM a)=A:=⟨_,rfl⟩
       obtain⟨B,hB⟩:∃B,nM b*2^nk (nM b)=B:=⟨_,rfl⟩
       have hv:=T9 a b h0 h1 g0 g1 hia hna hib hnb za zb A B hA hB;rw[hA]at A1 A2;rw[hB]at B1 B2;have hq:=XH A B A1 A2 B1 B2;obtain⟨EA,hEA⟩:∃EA,nE a-(nk (nM a):Int)=EA:=⟨_,rfl⟩
       obtain⟨EB,hEB⟩:∃EB,nE b-(nk (nM b):Int)=EB:=⟨_,rfl⟩
       rw[hEA,hEB]at hv;have eb: -172<=EA/\EA<=104/\-172<=EB/\EB<=104:=oM;rw[hv];clear hv ra rb a5 b5;obtain⟨q,hqq⟩:∃q,A*274877906944/B=q:=⟨_,rfl⟩
       obtain⟨r,hrr⟩:∃r,A*274877906944%B=r:=⟨_,rfl⟩
       rw[hqq,hrr]at hq ⊢;have hdiv:(A*274877906944).tdiv B=q:=by rw[←hqq,Int.tdiv_eq_ediv_of_nonneg oM]
       have hmod:(A*274877906944).tmod B=r:=by rw[←hrr,Int.tmod_eq_emod_of_nonneg oM]
       by_cases zr:r=0
       ·rw[if_pos zr];exact Zbx
       ·rw[if_neg zr];exact Zbx
    ·obtain⟨rb,-,b1⟩:=D5 b g0 g1 hib;have hv:EF a b=GF (AU a != AU b):=by rw[DU a b ra rb,←Pd,←Dq];rfl
     rw[hv];clear hv ra rb;by_cases za:nM a=0
     ·skip
      exact W6
     ·skip
      exact W6
   ·obtain⟨ra,-,a1⟩:=D5 a h0 h1 hia;cases hib:De b
    ·obtain⟨rb,b1,b2,b3,b4,b5⟩:=BD b g0 g1 hib hnb;have hv:EF a b=GF (AU a != AU b)+2139095040:=by rw[DU a b ra rb,←BU,←Dq];rfl
     rw[hv];clear hv ra rb;exact W6
    ·obtain⟨rb,-,b1⟩:=D5 b g0 g1 hib;have hv:EF a b=2143289344:=by rw[DU a b ra rb];rfl
     rw[hv];clear hv ra rb;exact W6
  ·have hv:=Mf a b h0 h1 g0 g1 (Or.inr hnb);rw[hv];clear hv;exact W6
 ·have hv:=Mf a b h0 h1 g0 g1 (Or.inl hna);rw[hv];clear hv;exact W6
theorem UN{op:Int}(h:(A6 op).n=9):((op=29\/op=30)/\(A6 op).d=3)\/(op=31/\(A6 op).d=0/\(A6 op).a=3):=by
 have C5:∀k:Fin 38,(A6 (k.val:Int)).n=9->k.val=29\/k.val=30\/k.val=31:=by decide+kernel
 by_cases hk:As op=true
 ·have hh:1<=op/\op<=37:=by unfold As at hk;simp at hk;exact hk
  have e:((⟨op.toNat,oM⟩:Fin 38).val:Int)=op:=by show((op.toNat:Nat):Int)=op;omega
  have:=C5 ⟨op.toNat,oM⟩ (by rw[e];exact h);simp only at this;rcases this with h1|h1|h1
  ·have:op=29:=oM;subst this;exact .inl ⟨.inl rfl,rfl⟩
  ·have:op=30:=oM;subst this;exact .inl ⟨.inr rfl,rfl⟩
  ·have:op=31:=oM;subst this;exact .inr ⟨rfl,rfl,rfl⟩
 ·rw[GB op (by simpa using hk)]at h;exact absurd h dE
theorem IL{c:Cd}{n:Int}{m:Ty}(ht:Am c=true)(h:Ac c.regs 3 n m=true):Ak (A8 c.regs n).par c.sign.length=true:=by
 unfold Ac at h;rw[if_neg dE]at h;simp only[Bool.and_eq_true]at h;obtain⟨h1,h2⟩:=h;obtain⟨k,hk,hl⟩:=CZ h1;rw[EP hk hl]at h2 ⊢;have hm:c.regs[k].kind=3:=by
  unfold B5 at h2;rw[if_neg dE,if_neg dE,if_pos rfl]at h2;simpa using h2
 have:=List.all_eq_true.1 ht c.regs[k] (List.getElem_mem hl);unfold At at this;rw[if_neg oM,if_pos hm]at this;exact this
theorem Rn{c:Cd}{i:Au}(ht:Am c=true)(hd:Ac c.regs (A6 i.op).d i.d (Aw c.regs i (A6 i.op))=true)(ha:Ac c.regs (A6 i.op).a i.a (Aw c.regs i (A6 i.op))=true)(h9:(A6 i.op).n=9):Ak (Aw c.regs i (A6 i.op)).par c.sign.length=true:=by
 rcases UN h9 with⟨_,e⟩|⟨_,e,e2⟩
 ·rw[e]at hd;have:=IL ht hd;unfold Aw EY;rw[e,if_neg dE];exact this
 ·rw[e2]at ha;have:=IL ht ha;unfold Aw EY;rw[e,if_pos rfl];exact this
theorem Uc{c:Cd}{i:Au}{r:Rw}(h:Bu c i r=true):∀x∈Al i r,0<=x/\x<(c.regs.length:Int):=by
 intro x hx;unfold Al at hx;rcases List.mem_append.1 hx with hx|hx
 ·by_cases e:r.a=0
  ·rw[if_pos e]at hx;cases hx
  ·rw[if_neg e]at hx;simp at hx;subst hx;exact Ae (D1 h) e
 rcases List.mem_append.1 hx with hx|hx
 ·by_cases e:r.b=0
  ·rw[if_pos e]at hx;cases hx
  ·rw[if_neg e]at hx;simp at hx;subst hx;exact Ae (Fw h) e
 ·by_cases e:r.c=0
  ·rw[if_pos e]at hx;cases hx
  ·rw[if_neg e]at hx;simp at hx;subst hx;exact Ae (Fx h) e
theorem RN(i:Au)(r:Rw):(Al i r).length<=3:=by
 rw[Gw];simp only[List.length_append];have:=GY r.a i.a;have:=GY r.b i.b;have:=GY r.c i.c;omega
theorem Nb{c:Cd}{s:Wk}{i:Au}{r:Rw}(h:Az c s i r=true)(e:i.op=35\/i.op=37):s.opens≠[]:=by
 unfold Az at h;rw[if_neg oM]at h;intro hO;rcases e with e|e
 ·rw[if_pos e,hO]at h;simp at h
 ·rw[if_neg oM,if_pos e]at h;unfold Av at h;rw[hO]at h;cases h
structure TK(w:World)(H G C:Nat)(L0 L1 L2 L3 L4:Int)(v:World):Prop where
 bel:Below w.heap.size w v
 r0:v.cell? ⟨H,0,none⟩=some (.int .i64 L0)
 r1:v.cell? ⟨H,1,none⟩=some (.int .i64 L1)
 r2:v.cell? ⟨H,2,none⟩=some (.int .i64 L2)
 r3:v.cell? ⟨H,3,none⟩=some (.int .i64 L3)
 r4:v.cell? ⟨H,4,none⟩=some (.int .i64 L4)
 g0:v.cell? ⟨G,0,none⟩=some (.pointer (some ⟨C,0,none⟩))
theorem TK.next{w:World}{H G C:Nat}{L0 L1 L2 L3 L4:Int}{v v':World}(h:TK w H G C L0 L1 L2 L3 L4 v)(k:Below v.heap.size v v'):TK w H G C L0 L1 L2 L3 L4 v':=
 ⟨Go.Proofs.YtbinohkcolcbfaaGreat.bel h.bel k,kc k h.r0,kc k h.r1,kc k h.r2,kc k h.r3,kc k h.r4,kc k h.g0⟩
theorem Nf(E G C n gi:Nat)(vs vo:Value)(s:Wk)(v0 v1 v2 v3:Value)(c:Cd)(hk:B0 c)(b o:Nat)(i:Au)(w:World)(h:WS E G C n gi vs vo w s)(hnn:c.regs.length=n)(ok:Dm n s)(hn:n<=16384)(hc:C0 w C v0 v1 v2 v3 c)(hi:Aa w b o (DP i))(hbE:b<E)(htm:Am c=true)(hb0:0<=i.bits)(hb1:i.bits<4294967296):
 Calls prog 32 #[.pointer (some ⟨G,0,none⟩),.pointer (some ⟨b,o,none⟩)] w fun e w'=>e=.returned (.bool (AQ c s i))/\Below E w w'/\(AQ c s i=true->∃vs' vo',WS E G C n gi vs' vo' w' (Aq s i)):=by
 have K1:=Ka i.op w;have K2:=fun v h1 h2=>Th C v0 v1 v2 v3 c hk b o i (A6 i.op) v h1 h2 hb0 hb1 (Rn htm);have K3:=fun v h1 h2 h3=>Lg E G C n gi vs vo s v0 v1 v2 v3 c hk b o i (A6 i.op) v h1 ok.nest h2 h3;have K4:=fun v h1=>G2 b o i (A6 i.op) v h1;have K5:=fun(hf:Bu c i (A6 i.op)=true) (hs:Az c s i (A6 i.op)=true) v h1 h2=>U5 E G C n gi vs vo s b o i (A6 i.op) v h1 ok hn h2 hbE (G6 hs) (Nb hs) (fun hd=>by have:=Ae (DV hf) hd;rw[hnn]at this;exact this);have KL:Bu c i (A6 i.op)=true->∀x∈Al i (A6 i.op),0<=x/\x<(n:Int):=fun hf=>by have:=Uc hf;rw[hnn]at this;exact this
 have KN:=RN i (A6 i.op);have HC0:Hid (C0 w C v0 v1 v2 v3 c):=hc;have HI0:Hid (Aa w b o (DP i)):=hi;have HS0:Hid (WS E G C n gi vs vo w s):=h;have e0:=hi.at 0 rfl;rw[Nat.add_zero]at e0;have hE:=h.lt;have g0:=h.c0;unfold AQ Aq;have hro:G3 s i (A6 i.op)=(Al i (A6 i.op)).all fun n=>decide (n.toNat∈s.set):=rfl;rw[hro];obtain⟨op,hop⟩:∃x,i.op=x:=⟨_,rfl⟩
 rw[hop]at K1 K2 K3 K4 K5 KL KN e0 ⊢;obtain⟨r,hr⟩:∃r,A6 op=r:=⟨_,rfl⟩
 simp only[hr]at K1 K2 K3 K4 K5 KL KN ⊢;obtain⟨X0,hX0⟩:∃X,As op=X:=⟨_,rfl⟩
 obtain⟨X1,hX1⟩:∃X,Bu c i r=X:=⟨_,rfl⟩
 obtain⟨X2,hX2⟩:∃X,Az c s i r=X:=⟨_,rfl⟩
 obtain⟨RL,hRL⟩:∃X,Al i r=X:=⟨_,rfl⟩
 obtain⟨Z,hZ⟩:∃Z,Fk s i r=Z:=⟨_,rfl⟩
 obtain⟨AL,hAL⟩:∃X,((Al i r).all fun n=>decide (n.toNat∈s.set))=X:=⟨_,rfl⟩
 rw[hAL];simp only[hX0]at K1 ⊢;simp only[hX1]at K2 K5 KL ⊢;simp only[hX2]at K3 K5 ⊢;simp only[hRL]at K4 KL KN;rw[hRL]at hAL;have HAL:Hid ((RL.all fun n=>decide (n.toNat∈s.set))=AL):=hAL;simp only[hZ]at K5 ⊢;obtain⟨L0,L1,L2,L3,L4⟩:=r;unfold Dh at K1 K2 K3 K4 K5;simp only at K1 K2 K3 K4 K5;have HK1:Hid (Calls prog 53 #[.int .i64 op] w fun e w'=>e=.returned (.tuple #[.agg #[.int .i64 L0,.int .i64 L1,.int .i64 L2,.int .i64 L3,.int .i64 L4],.bool X0])/\Below w.heap.size w w'):=K1;have HK2:Hid (∀v,C0 v C v0 v1 v2 v3 c->Aa v b o (DP i)->Calls prog 54 #[.pointer (some ⟨C,0,none⟩),.pointer (some ⟨b,o,none⟩),.agg #[.int .i64 L0,.int .i64 L1,.int .i64 L2,.int .i64 L3,.int .i64 L4]] v fun e w'=>e=.returned (.bool X1)/\Below v.heap.size v w'):=K2;have HK3:Hid (∀v,WS E G C n gi vs vo v s->C0 v C v0 v1 v2 v3 c->Aa v b o (DP i)->Calls prog 55 #[.pointer (some ⟨G,0,none⟩),.pointer (some ⟨b,o,none⟩),.agg #[.int .i64 L0,.int .i64 L1,.int .i64 L2,.int .i64 L3,.int .i64 L4]] v fun e w'=>e=.returned (.bool X2)/\Below v.heap.size v w'):=K3;have HK4:Hid (∀v,Aa v b o (DP i)->Calls prog 56 #[.agg #[.int .i64 L0,.int .i64 L1,.int .i64 L2,.int .i64 L3,.int .i64 L4],.pointer (some ⟨b,o,none⟩)] v fun e w'=>∃u,e=.returned u/\w'.ownsRow v.heap.size 3 1 u RL.length (BQ RL)/\Below v.heap.size v w'):=K4;have HK5:Hid (X1=true->X2=true->∀v,WS E G C n gi vs vo v s->Aa v b o (DP i)->Calls prog 57 #[.pointer (some ⟨G,0,none⟩),.pointer (some ⟨b,o,none⟩),.agg #[.int .i64 L0,.int .i64 L1,.int .i64 L2,.int .i64 L3,.int .i64 L4]] v fun e w'=>e=.returned (.tuple #[])/\Below E v w'/\∃vs' vo',WS E G C n gi vs' vo' w' Z):=K5;have HKL:Hid (X1=true->∀x∈RL,0<=x/\x<(n:Int)):=KL;clear K1 K2 K3 K4 K5 KL h hc hi hk hro hop hr hX0 hX1 hX2 hRL hZ hAL hb0 hb1 htm ok hnn;cases X0
 ·go_enter func32,ntmps32;go_wp2_with(go_at_call 53;refine HK1.out.mono ?_;rintro e w1 ⟨rfl,hw1⟩;have HT:Hid (TK w w1.heap.size G C L0 L1 L2 L3 L4 (w1.alloc (.cells #[.int .i64 L0,.int .i64 L1,.int .i64 L2,.int .i64 L3,.int .i64 L4] 134))):=Zfw);have HCX:Hid (∀v,Below (w1.alloc (.cells #[.int .i64 L0,.int .i64 L1,.int .i64 L2,.int .i64 L3,.int .i64 L4] 134)).heap.size (w1.alloc (.cells #[.int .i64 L0,.int .i64 L1,.int .i64 L2,.int .i64 L3,.int .i64 L4] 134)) v->v.cell? ⟨G,0,none⟩=some (.pointer (some ⟨C,0,none⟩))/\v.cell? ⟨w1.heap.size,0,none⟩=some (.int .i64 L0)/\v.cell? ⟨w1.heap.size,1,none⟩=some (.int .i64 L1)/\v.cell? ⟨w1.heap.size,2,none⟩=some (.int .i64 L2)/\v.cell? ⟨w1.heap.size,3,none⟩=some (.int .i64 L3)/\v.cell? ⟨w1.heap.size,4,none⟩=some (.int .i64 L4)):=fun v hv=>⟨(HT.out.next hv).g0,(HT.out.next hv).r0,(HT.out.next hv).r1,(HT.out.next hv).r2,(HT.out.next hv).r3,(HT.out.next hv).r4⟩;obtain⟨t0,t1,t2,t3,t4,t5⟩:=HCX.out _ (B8 _);refine rG (fun v=>v.cell? ⟨G,0,none⟩=some (.pointer (some ⟨C,0,none⟩))/\v.cell? ⟨w1.heap.size,0,none⟩=some (.int .i64 L0)/\v.cell? ⟨w1.heap.size,1,none⟩=some (.int .i64 L1)/\v.cell? ⟨w1.heap.size,2,none⟩=some (.int .i64 L2)/\v.cell? ⟨w1.heap.size,3,none⟩=some (.int .i64 L3)/\v.cell? ⟨w1.heap.size,4,none⟩=some (.int .i64 L4)) fun hHeld=>?_;refine Tc 0 1 2 ?_;refine Kd 3 4 5 6 ?_;refine Kd 7 8 9 10 ?_;refine Tb 11 12 ?_;refine Kd 13 14 15 16 ?_;refine D7 17 ?_;refine AI 18 ?_;refine wpAnyH_done kR ?_ _;go_wp2;go_ret;exact⟨rfl,(bel HT.out.bel (A5 _)).mono hE,fun e=>absurd e sM⟩
 cases X1
 ·go_enter func32,ntmps32;go_wp2_with(go_at_call 53;refine HK1.out.mono ?_;rintro e w1 ⟨rfl,hw1⟩;have HT:Hid (TK w w1.heap.size G C L0 L1 L2 L3 L4 (w1.alloc (.cells #[.int .i64 L0,.int .i64 L1,.int .i64 L2,.int .i64 L3,.int .i64 L4] 134))):=Zfw);have HCX:Hid (∀v,Below (w1.alloc (.cells #[.int .i64 L0,.int .i64 L1,.int .i64 L2,.int .i64 L3,.int .i64 L4] 134)).heap.size (w1.alloc (.cells #[.int .i64 L0,.int .i64 L1,.int .i64 L2,.int .i64 L3,.int .i64 L4] 134)) v->v.cell? ⟨G,0,none⟩=some (.pointer (some ⟨C,0,none⟩))/\v.cell? ⟨w1.heap.size,0,none⟩=some (.int .i64 L0)/\v.cell? ⟨w1.heap.size,1,none⟩=some (.int .i64 L1)/\v.cell? ⟨w1.heap.size,2,none⟩=some (.int .i64 L2)/\v.cell? ⟨w1.heap.size,3,none⟩=some (.int .i64 L3)/\v.cell? ⟨w1.heap.size,4,none⟩=some (.int .i64 L4)):=fun v hv=>⟨(HT.out.next hv).g0,(HT.out.next hv).r0,(HT.out.next hv).r1,(HT.out.next hv).r2,(HT.out.next hv).r3,(HT.out.next hv).r4⟩;obtain⟨t0,t1,t2,t3,t4,t5⟩:=HCX.out _ (B8 _);refine rG (fun v=>v.cell? ⟨G,0,none⟩=some (.pointer (some ⟨C,0,none⟩))/\v.cell? ⟨w1.heap.size,0,none⟩=some (.int .i64 L0)/\v.cell? ⟨w1.heap.size,1,none⟩=some (.int .i64 L1)/\v.cell? ⟨w1.heap.size,2,none⟩=some (.int .i64 L2)/\v.cell? ⟨w1.heap.size,3,none⟩=some (.int .i64 L3)/\v.cell? ⟨w1.heap.size,4,none⟩=some (.int .i64 L4)) fun hHeld=>?_;refine Tf 0 1 2 3 4 5 ?_;refine Tc 6 7 8 ?_;clear hHeld;refine Ao 9 fun K hK=>?_;go_simp;(go_at_call 54;refine(HK2.out _ (HC0.out.below (bel HT.out.bel (A5 _))) (HI0.out.below (bel HT.out.bel (A5 _)))).mono ?_;rintro e w2 ⟨rfl,hw2⟩;have HB2:=bel (A5 _) hw2;obtain⟨y0,y1,y2,y3,y4,y5⟩:=HCX.out w2 HB2);try(go_wp2_with fail)
  refine An hK fun hHeld=>?_;clear hK K;refine Tc 10 11 12 ?_;refine Kd 13 14 15 16 ?_;refine D7 17 ?_;refine AI 18 ?_;refine wpAnyH_done kR ?_ _;go_wp2;go_ret;exact⟨rfl,(bel HT.out.bel HB2).mono hE,fun e=>absurd e sM⟩
 cases X2
 ·go_enter func32,ntmps32;go_wp2_with(go_at_call 53;refine HK1.out.mono ?_;rintro e w1 ⟨rfl,hw1⟩;have HT:Hid (TK w w1.heap.size G C L0 L1 L2 L3 L4 (w1.alloc (.cells #[.int .i64 L0,.int .i64 L1,.int .i64 L2,.int .i64 L3,.int .i64 L4] 134))):=Zfw);have HCX:Hid (∀v,Below (w1.alloc (.cells #[.int .i64 L0,.int .i64 L1,.int .i64 L2,.int .i64 L3,.int .i64 L4] 134)).heap.size (w1.alloc (.cells #[.int .i64 L0,.int .i64 L1,.int .i64 L2,.int .i64 L3,.int .i64 L4] 134)) v->v.cell? ⟨G,0,none⟩=some (.pointer (some ⟨C,0,none⟩))/\v.cell? ⟨w1.heap.size,0,none⟩=some (.int .i64 L0)/\v.cell? ⟨w1.heap.size,1,none⟩=some (.int .i64 L1)/\v.cell? ⟨w1.heap.size,2,none⟩=some (.int .i64 L2)/\v.cell? ⟨w1.heap.size,3,none⟩=some (.int .i64 L3)/\v.cell? ⟨w1.heap.size,4,none⟩=some (.int .i64 L4)):=fun v hv=>⟨(HT.out.next hv).g0,(HT.out.next hv).r0,(HT.out.next hv).r1,(HT.out.next hv).r2,(HT.out.next hv).r3,(HT.out.next hv).r4⟩;obtain⟨t0,t1,t2,t3,t4,t5⟩:=HCX.out _ (B8 _);refine rG (fun v=>v.cell? ⟨G,0,none⟩=some (.pointer (some ⟨C,0,none⟩))/\v.cell? ⟨w1.heap.size,0,none⟩=some (.int .i64 L0)/\v.cell? ⟨w1.heap.size,1,none⟩=some (.int .i64 L1)/\v.cell? ⟨w1.heap.size,2,none⟩=some (.int .i64 L2)/\v.cell? ⟨w1.heap.size,3,none⟩=some (.int .i64 L3)/\v.cell? ⟨w1.heap.size,4,none⟩=some (.int .i64 L4)) fun hHeld=>?_;refine Tf 0 1 2 3 4 5 ?_;refine Tc 6 7 8 ?_;clear hHeld;refine Ao 9 fun K hK=>?_;go_simp;(go_at_call 54;refine(HK2.out _ (HC0.out.below (bel HT.out.bel (A5 _))) (HI0.out.below (bel HT.out.bel (A5 _)))).mono ?_;rintro e w2 ⟨rfl,hw2⟩;have HB2:=bel (A5 _) hw2;obtain⟨y0,y1,y2,y3,y4,y5⟩:=HCX.out w2 HB2);try(go_wp2_with fail)
  refine An hK fun hHeld=>?_;clear hK K;refine Tf 10 11 12 13 14 15 ?_;clear hHeld;refine Ao 16 fun K hK=>?_;go_simp;(go_at_call 55;refine(HK3.out _ (HS0.out.below (bel HT.out.bel HB2)) (HC0.out.below (bel HT.out.bel HB2)) (HI0.out.below (bel HT.out.bel HB2))).mono ?_;rintro e w3 ⟨rfl,hw3⟩;have HB3:=bel HB2 hw3;obtain⟨y0,y1,y2,y3,y4,y5⟩:=HCX.out w3 HB3);try(go_wp2_with fail)
  refine An hK fun hHeld=>?_;clear hK K;refine Tb 17 18 ?_;refine wpAnyH_done kR ?_ _;go_wp2;go_ret;exact⟨rfl,(bel HT.out.bel HB3).mono hE,fun e=>absurd e sM⟩
 go_enter func32,ntmps32;go_wp2_with(go_at_call 53;refine HK1.out.mono ?_;rintro e w1 ⟨rfl,hw1⟩;have HT:Hid (TK w w1.heap.size G C L0 L1 L2 L3 L4 (w1.alloc (.cells #[.int .i64 L0,.int .i64 L1,.int .i64 L2,.int .i64 L3,.int .i64 L4] 134))):=Zfw);have HCX:Hid (∀v,Below (w1.alloc (.cells #[.int .i64 L0,.int .i64 L1,.int .i64 L2,.int .i64 L3,.int .i64 L4] 134)).heap.size (w1.alloc (.cells #[.int .i64 L0,.int .i64 L1,.int .i64 L2,.int .i64 L3,.int .i64 L4] 134)) v->v.cell? ⟨G,0,none⟩=some (.pointer (some ⟨C,0,none⟩))/\v.cell? ⟨w1.heap.size,0,none⟩=some (.int .i64 L0)/\v.cell? ⟨w1.heap.size,1,none⟩=some (.int .i64 L1)/\v.cell? ⟨w1.heap.size,2,none⟩=some (.int .i64 L2)/\v.cell? ⟨w1.heap.size,3,none⟩=some (.int .i64 L3)/\v.cell? ⟨w1.heap.size,4,none⟩=some (.int .i64 L4)):=fun v hv=>⟨(HT.out.next hv).g0,(HT.out.next hv).r0,(HT.out.next hv).r1,(HT.out.next hv).r2,(HT.out.next hv).r3,(HT.out.next hv).r4⟩;obtain⟨t0,t1,t2,t3,t4,t5⟩:=HCX.out _ (B8 _);refine rG (fun v=>v.cell? ⟨G,0,none⟩=some (.pointer (some ⟨C,0,none⟩))/\v.cell? ⟨w1.heap.size,0,none⟩=some (.int .i64 L0)/\v.cell? ⟨w1.heap.size,1,none⟩=some (.int .i64 L1)/\v.cell? ⟨w1.heap.size,2,none⟩=some (.int .i64 L2)/\v.cell? ⟨w1.heap.size,3,none⟩=some (.int .i64 L3)/\v.cell? ⟨w1.heap.size,4,none⟩=some (.int .i64 L4)) fun hHeld=>?_;refine Tf 0 1 2 3 4 5 ?_;refine Tc 6 7 8 ?_;clear hHeld;refine Ao 9 fun K hK=>?_;go_simp;(go_at_call 54;refine(HK2.out _ (HC0.out.below (bel HT.out.bel (A5 _))) (HI0.out.below (bel HT.out.bel (A5 _)))).mono ?_;rintro e w2 ⟨rfl,hw2⟩;have HB2:=bel (A5 _) hw2;obtain⟨y0,y1,y2,y3,y4,y5⟩:=HCX.out w2 HB2);try(go_wp2_with fail)
 refine An hK fun hHeld=>?_;clear hK K;refine Tf 10 11 12 13 14 15 ?_;clear hHeld;refine Ao 16 fun K hK=>?_;go_simp;(go_at_call 55;refine(HK3.out _ (HS0.out.below (bel HT.out.bel HB2)) (HC0.out.below (bel HT.out.bel HB2)) (HI0.out.below (bel HT.out.bel HB2))).mono ?_;rintro e w3 ⟨rfl,hw3⟩;have HB3:=bel HB2 hw3;obtain⟨y0,y1,y2,y3,y4,y5⟩:=HCX.out w3 HB3);try(go_wp2_with fail)
 refine An hK fun hHeld=>?_;clear hK K;refine Tb 17 18 ?_;refine wpAnyH_done kR ?_ _;have HT3:Hid (TK w w1.heap.size G C L0 L1 L2 L3 L4 w3):=HT.out.next HB3;clear HB2 HB3 hw2 hw3;go_wp2_with(go_at_call 56;refine(HK4.out _ (HI0.out.below HT3.out.bel)).mono ?_;rintro e w4 ⟨u,rfl,hu,hw4⟩;obtain⟨pu,cu,hue⟩:=Bl hu;subst hue;have HU:Hid (w4.ownsRow w3.heap.size 3 1 (.slice pu RL.length cu) RL.length (BQ RL)):=hu;have HT4:Hid (TK w w1.heap.size G C L0 L1 L2 L3 L4 w4):=HT3.out.next hw4;clear hu hw4);have HSW:Hid (WS E G C n gi vs vo w4 s):=HS0.out.below HT4.out.bel;have k0:=HT4.out.r0;have k1:=HT4.out.r1;have k2:=HT4.out.r2;have k3:=HT4.out.r3;have k4:=HT4.out.r4;have HFX:Hid (∀j (hj:j<RL.length),∃ (gu x:Nat),pu=some ⟨gu,0,none⟩/\w4.cell? ⟨gu,j,none⟩=some (.int .i64 (x:Int))/\x<n/\w4.cell? ⟨gi,x,none⟩=some (.bool (decide (x∈s.set)))/\decide (x∈s.set)=decide (RL[j].toNat∈s.set)):=fun j hj=>by
  obtain⟨gu,cap,hv,_,_,_,_,hcl⟩:=DF HU.out oM;simp only[Value.slice.injEq]at hv;have hx:=HKL.out fT RL[j] (List.getElem_mem hj);refine⟨gu,RL[j].toNat,hv.1,?_,oM,HSW.out.i.cell oM,rfl⟩;rw[show((RL[j].toNat:Nat):Int)=RL[j] by omega];exact hcl j _ (by simp[BQ,List.getElem?_eq_getElem hj])
 have d1:=HSW.out.c1;obtain⟨M,hM⟩:∃M,RL.length=M:=⟨_,rfl⟩
 have HM:Hid (RL.length=M):=hM;rw[hM]at KN ⊢;clear hM
 go_loopw [40] (fun iv wr=>wr=w4/\∃j:Nat,j<=M/\iv=.int .i64 j/\Hid (∀i (h:i<RL.length),i<j->decide (RL[i].toNat∈s.set)=true)) (fun iv _=>M-(intOf iv).toNat)
 case atStart=>exact⟨rfl,0,Nat.zero_le _,rfl,fun i h hi=>absurd hi (Nat.not_lt_zero _)⟩
 case round=>
  clear HT HT3 HCX t0 t1 t2 t3 t4 t5 y0 y1 y2 y3 y4 y5;obtain⟨rfl,j,hj,rfl,hp⟩:=hrel;by_cases hlt:j<M
  ·have hll:j<RL.length:=by rw[HM.out];exact hlt
   obtain⟨gu,x,rfl,a1,a2,a3,a4⟩:=HFX.out j hll;have NX:Hid (decide (RL[j].toNat∈s.set)=true->∀i (h:i<RL.length),i<j+1->decide (RL[i].toNat∈s.set)=true):=fun hq i h hi=>by
    exact YD
   have NB:Hid (decide (RL[j].toNat∈s.set)=false->(RL.all fun n=>decide (n.toNat∈s.set))=false):=fun h=>List.all_eq_false.2 ⟨RL[j],List.getElem_mem hll,by rw[h];decide⟩;rw[←a4]at NX NB;have i1:(0:Int)<=(j:Int):=oM;have i2:(j:Int)<(M:Int):=oM;have i3:(0:Int)<=(x:Int):=oM;have i4:(x:Int)<(n:Int):=oM;obtain⟨Y,hY⟩:∃Y,decide (x∈s.set)=Y:=⟨_,rfl⟩
   rw[hY]at NX NB a3;clear hp hY a4 HFX HU;cases Y
   ·go_wp2;go_ret;have hF:AL=false:=by rw[←HAL.out];exact NB.out fT
    exact⟨by rw[hF];rfl,HT4.out.bel.mono hE,fun e=>absurd e (by simp[hF])⟩
   ·go_wp2;go_roundw
    case rel=>exact⟨fT,j+1,oM,gN,NX.out fT⟩
    case measure=>simp[intOf];omega
  ·have:j=M:=oM;subst this;have HF:Hid ((RL.all fun n=>decide (n.toNat∈s.set))=true):=List.all_eq_true.2 fun t ht=>by
    obtain⟨i,hi,rfl⟩:=List.mem_iff_getElem.1 ht;exact hp.out i hi (by rw[←HM.out];exact hi)
   clear hp;go_wp2_with(go_at_call 57;refine(HK5.out fT fT _ HSW.out (HI0.out.below HT4.out.bel)).mono ?_;rintro e w6 ⟨rfl,hb6,hws⟩;have HB6:Hid (Below E wr w6):=hb6;have HWS:Hid (∃vs' vo',WS E G C n gi vs' vo' w6 Z):=hws;clear hb6 hws);go_ret;exact⟨by rw[←HAL.out,HF.out];rfl,(HT4.out.bel.mono hE).trans HB6.out,fun _=>HWS.out⟩
end Go.Proofs.YtbinohkcolcbfaaGreat
