import Derived.Test.YtbinohkcolcbfaaGreatClon1
import Derived.Test.YtbinohkcolcbfaaGreatClon5
import Derived.ChangeKeysEq
namespace Go.Proofs.YtbinohkcolcbfaaGreat
open Go.RowKit Go.Proofs.Tryz
set_option linter.all false
set_option maxRecDepth 100000
set_option maxHeartbeats 16000000
structure MW(w:World)(H G C b o:Nat)(vo:Value)(L0 L1 L2 L3 L4 op:Int)(X:Bool)(P A:Int)(v:World):Prop where
 bel:Below w.heap.size w v
 r0:v.cell? ⟨w.heap.size,0,none⟩=some (.int .i64 L0)
 r1:v.cell? ⟨w.heap.size,1,none⟩=some (.int .i64 L1)
 r2:v.cell? ⟨w.heap.size,2,none⟩=some (.int .i64 L2)
 r3:v.cell? ⟨w.heap.size,3,none⟩=some (.int .i64 L3)
 r4:v.cell? ⟨w.heap.size,4,none⟩=some (.int .i64 L4)
 m0:v.cell? ⟨H,0,none⟩=some (.bool X)
 m1:v.cell? ⟨H,1,none⟩=some (.int .i64 P)
 g0:v.cell? ⟨G,0,none⟩=some (.pointer (some ⟨C,0,none⟩))
 g3:v.cell? ⟨G,3,none⟩=some vo
 e0:v.cell? ⟨b,o,none⟩=some (.int .i64 op)
theorem MW.next{w:World}{H G C b o:Nat}{vo:Value}{L0 L1 L2 L3 L4 op:Int}{X:Bool}{P A:Int}{v v':World}(h:MW w H G C b o vo L0 L1 L2 L3 L4 op X P A v)(k:Below v.heap.size v v'):MW w H G C b o vo L0 L1 L2 L3 L4 op X P A v':=
 ⟨Go.Proofs.YtbinohkcolcbfaaGreat.bel h.bel k,kc k h.r0,kc k h.r1,kc k h.r2,kc k h.r3,kc k h.r4,kc k h.m0,kc k h.m1,kc k h.g0,kc k h.g3,kc k h.e0⟩
theorem Lg(E G C n gi:Nat)(vs vo:Value)(s:Wk)(v0 v1 v2 v3:Value)(c:Cd)(hk:B0 c)(b o:Nat)(i:Au)(r:Rw)(w:World)(h:WS E G C n gi vs vo w s)(hn:s.opens.length<=64)(hc:C0 w C v0 v1 v2 v3 c)(hi:Aa w b o (DP i)):
 Calls prog 55 #[.pointer (some ⟨G,0,none⟩),.pointer (some ⟨b,o,none⟩),Dh r] w fun e w'=>e=.returned (.bool (Az c s i r))/\Below w.heap.size w w':=by
 have KI:=Jg E G C n gi vs vo s;have KM:=fun w h k=>Gj C v0 v1 v2 v3 c hk b o i r w h k;have KL:=Oo i.op;have HC0:Hid (C0 w C v0 v1 v2 v3 c):=hc;have HI0:Hid (Aa w b o (DP i)):=hi;have HS0:Hid (WS E G C n gi vs vo w s):=h;have hlen:∃p q,vo=.slice p s.opens.length q:=Bl h.opn;obtain⟨p,q,rfl⟩:=hlen;have e0:=hi.at 0 rfl;rw[Nat.add_zero]at e0;have hop:(!s.opens.isEmpty)=false->Av s=false:=fun hh=>by
  unfold Av;cases hO:s.opens with
  |nil=>rfl
  |cons b r=>rw[hO]at hh;simp at hh
 unfold Az;obtain⟨X,hX⟩:∃X,Av s=X:=⟨_,rfl⟩
 obtain⟨Y,hY⟩:∃Y,(!s.opens.isEmpty)=Y:=⟨_,rfl⟩
 obtain⟨P,hP⟩:∃P,Cq s=P:=⟨_,rfl⟩
 obtain⟨Z,hZ⟩:∃Z,Cm i.op=Z:=⟨_,rfl⟩
 obtain⟨M,hM⟩:∃M,Aw c.regs i r=M:=⟨_,rfl⟩
 obtain⟨N,hN⟩:∃N,s.opens.length=N:=⟨_,rfl⟩
 obtain⟨op,hopp⟩:∃x,i.op=x:=⟨_,rfl⟩
 rw[hX,hY]at hop;simp only[hX,hY,hP,hN]at KI ⊢;simp only[hM]at KM ⊢;simp only[hZ]at KL ⊢;rw[hN]at HS0 hn;rw[hopp]at e0 KL ⊢;obtain⟨L0,L1,L2,L3,L4⟩:=r;obtain⟨K,Q⟩:=M;unfold Dh at KM ⊢;unfold Dp at KM;simp only at KM;rw[VA];have HKI:Hid (∀w,WS E G C n gi vs (.slice p N q) w s->Calls prog 96 #[.pointer (some ⟨G,0,none⟩)] w fun e w'=>(∃A:Int,e=.returned (.tuple #[.agg #[.bool X,.int .i64 P,.int .i64 A],.bool Y]))/\Below w.heap.size w w'):=fun w hw=>KI w hw hn;have HKM:Hid (∀w,C0 w C v0 v1 v2 v3 c->Aa w b o (DP i)->Calls prog 92 #[.pointer (some ⟨C,0,none⟩),.pointer (some ⟨b,o,none⟩),.agg #[.int .i64 L0,.int .i64 L1,.int .i64 L2,.int .i64 L3,.int .i64 L4]] w fun e w'=>e=.returned (.agg #[.int .i64 K,.int .i64 Q])/\Below w.heap.size w w'):=KM;have HKL:Hid (∀w,Calls prog 97 #[.int .i64 op] w fun e w'=>e=.returned (.bool Z)/\w'=w):=KL;have HE0:Hid (w.cell? ⟨b,o,none⟩=some (.int .i64 op)):=e0;have HOP:Hid (Y=false->X=false):=hop;clear KI KM KL h hc hi hk hX hY hP hZ hM hN hopp e0 hop hn;by_cases h34:op=34\/op=36
 ·rw[if_pos h34];cases X
  ·cases Y
   all_goals
    rcases h34 with h|h
    ·have e1:(op==34)=true:=(by have:op=34:=oM;simpa using this);have e2:(op==36)=false:=(by have:op≠36:=oM;simpa using this);have e3:(op==35)=false:=(by have:op≠35:=oM;simpa using this);have e4:(op==37)=false:=(by have:op≠37:=oM;simpa using this)
     clear h;exact Zaq
    ·have e1:(op==34)=false:=(by have:op≠34:=oM;simpa using this);have e2:(op==36)=true:=(by have:op=36:=oM;simpa using this);have e3:(op==35)=false:=(by have:op≠35:=oM;simpa using this);have e4:(op==37)=false:=(by have:op≠37:=oM;simpa using this)
     clear h;exact Zaq
  ·cases Y
   ·exact absurd (HOP.out rfl) dE
   ·rcases h34 with h|h
    ·have e1:(op==34)=true:=(by have:op=34:=oM;simpa using this);have e2:(op==36)=false:=(by have:op≠36:=oM;simpa using this);have e3:(op==35)=false:=(by have:op≠35:=oM;simpa using this);have e4:(op==37)=false:=(by have:op≠37:=oM;simpa using this)
     clear h;exact Zar
    ·have e1:(op==34)=false:=(by have:op≠34:=oM;simpa using this);have e2:(op==36)=true:=(by have:op=36:=oM;simpa using this);have e3:(op==35)=false:=(by have:op≠35:=oM;simpa using this);have e4:(op==37)=false:=(by have:op≠37:=oM;simpa using this)
     clear h;exact Zar
 rw[if_neg h34];by_cases h35:op=35
 ·rw[if_pos h35];have e1:(op==34)=false:=(by have:op≠34:=oM;simpa using this);have e2:(op==36)=false:=(by have:op≠36:=oM;simpa using this);have e3:(op==35)=true:=(by have:op=35:=oM;simpa using this);have e4:(op==37)=false:=(by have:op≠37:=oM;simpa using this)
  clear h34 h35;cases X
  ·cases Y
   all_goals
    exact Zaq
  ·cases Y
   ·exact absurd (HOP.out rfl) dE
   ·exact Zar
 rw[if_neg h35];by_cases h37:op=37
 ·rw[if_pos h37];have e1:(op==34)=false:=(by have:op≠34:=oM;simpa using this);have e2:(op==36)=false:=(by have:op≠36:=oM;simpa using this);have e3:(op==35)=false:=(by have:op≠35:=oM;simpa using this);have e4:(op==37)=true:=(by have:op=37:=oM;simpa using this)
  clear h34 h35 h37;cases X
  ·cases Y
   all_goals
    exact Zaq
  ·cases Y
   ·exact absurd (HOP.out rfl) dE
   ·exact Zar
 rw[if_neg h37];have e1:(op==34)=false:=by have:op≠34:=(fun e=>h34 (.inl e));simpa using this
 have e2:(op==36)=false:=by have:op≠36:=(fun e=>h34 (.inr e));simpa using this
 have e3:(op==35)=false:=by simpa using h35
 have e4:(op==37)=false:=by simpa using h37
 clear h34 h35 h37;cases X
 ·cases Y
  all_goals
   go_enter func55,ntmps55;go_wp2_with(go_at_call 96;refine(HKI.out _ (HS0.out.below (A0 _ _))).mono ?_;rintro e w1 ⟨⟨A,rfl⟩,hb1⟩;have HF:Hid (MW w w1.heap.size G C b o (.slice p N q) L0 L1 L2 L3 L4 op false P A (w1.alloc (.cells #[.bool false,.int .i64 P,.int .i64 A] 175))):=Zfp;have f0:=HF.out.m0;have f1:=HF.out.g3;have f2:=HF.out.e0;have f3:=HF.out.m1;have f4:=HF.out.g0);refine rG (fun v=>v.cell? ⟨b,o,none⟩=some (.int .i64 op)) fun hHeld=>?_;refine Tc 0 1 2 ?_;refine Kd 3 4 5 6 ?_;refine Kd 7 8 9 10 ?_;refine Kd 11 12 13 14 ?_;refine Kd 15 16 17 18 ?_;refine D7 19 ?_;refine D7 20 ?_;refine Tb 21 22 ?_;refine wpAnyH_done kR ?_ _;go_wp2;go_ret;exact⟨A7 sM,bel HF.out.bel (A5 _)⟩
 ·cases Y
  ·exact absurd (HOP.out rfl) dE
  ·cases Z
   ·go_enter func55,ntmps55;go_wp2_with(go_at_call 96;refine(HKI.out _ (HS0.out.below (A0 _ _))).mono ?_;rintro e w1 ⟨⟨A,rfl⟩,hb1⟩;have HF:Hid (MW w w1.heap.size G C b o (.slice p N q) L0 L1 L2 L3 L4 op true P A (w1.alloc (.cells #[.bool true,.int .i64 P,.int .i64 A] 175))):=Zfp;have f0:=HF.out.m0;have f1:=HF.out.g3;have f2:=HF.out.e0;have f3:=HF.out.m1;have f4:=HF.out.g0);refine rG (fun v=>v.cell? ⟨b,o,none⟩=some (.int .i64 op)) fun hHeld=>?_;refine Tf 0 1 2 3 4 5 ?_;refine AI 6 ?_;clear hHeld;refine Ao 7 fun K hK=>?_;go_simp;(go_at_call 97;refine(HKL.out _).mono ?_;rintro e w3 ⟨rfl,rfl⟩);try(go_wp2_with fail)
    refine An hK fun hHeld=>?_;clear hK K;refine AI 8 ?_;refine Kd 9 10 11 12 ?_;refine Kd 13 14 15 16 ?_;refine D7 17 ?_;refine D7 18 ?_;refine D7 19 ?_;refine Tc 20 21 22 ?_;refine wpAnyH_done kR ?_ _;go_wp2;go_ret;exact⟨A7 sM,bel HF.out.bel (A5 _)⟩
   ·cases hl:(K==3)<;>cases hq:(Q==P)
    all_goals
     go_enter func55,ntmps55;go_wp2_with(go_at_call 96;refine(HKI.out _ (HS0.out.below (A0 _ _))).mono ?_;rintro e w1 ⟨⟨A,rfl⟩,hb1⟩;have HF:Hid (MW w w1.heap.size G C b o (.slice p N q) L0 L1 L2 L3 L4 op true P A (w1.alloc (.cells #[.bool true,.int .i64 P,.int .i64 A] 175))):=Zfp;have f0:=HF.out.m0;have f1:=HF.out.g3;have f2:=HF.out.e0;have f3:=HF.out.m1;have f4:=HF.out.g0);have HCX:Hid (∀v,Below (w1.alloc (.cells #[.bool true,.int .i64 P,.int .i64 A] 175)).heap.size (w1.alloc (.cells #[.bool true,.int .i64 P,.int .i64 A] 175)) v->v.cell? ⟨b,o,none⟩=some (.int .i64 op)/\v.cell? ⟨G,0,none⟩=some (.pointer (some ⟨C,0,none⟩))/\v.cell? ⟨w1.heap.size,1,none⟩=some (.int .i64 P)/\v.cell? ⟨w.heap.size,0,none⟩=some (.int .i64 L0)/\v.cell? ⟨w.heap.size,1,none⟩=some (.int .i64 L1)/\v.cell? ⟨w.heap.size,2,none⟩=some (.int .i64 L2)/\v.cell? ⟨w.heap.size,3,none⟩=some (.int .i64 L3)/\v.cell? ⟨w.heap.size,4,none⟩=some (.int .i64 L4)):=fun v hv=>⟨(HF.out.next hv).e0,(HF.out.next hv).g0,(HF.out.next hv).m1,(HF.out.next hv).r0,(HF.out.next hv).r1,(HF.out.next hv).r2,(HF.out.next hv).r3,(HF.out.next hv).r4⟩
     have f5:=HF.out.r0;have f6:=HF.out.r1;have f7:=HF.out.r2;have f8:=HF.out.r3;have f9:=HF.out.r4;refine rG (fun v=>v.cell? ⟨b,o,none⟩=some (.int .i64 op)/\v.cell? ⟨G,0,none⟩=some (.pointer (some ⟨C,0,none⟩))/\v.cell? ⟨w1.heap.size,1,none⟩=some (.int .i64 P)/\v.cell? ⟨w.heap.size,0,none⟩=some (.int .i64 L0)/\v.cell? ⟨w.heap.size,1,none⟩=some (.int .i64 L1)/\v.cell? ⟨w.heap.size,2,none⟩=some (.int .i64 L2)/\v.cell? ⟨w.heap.size,3,none⟩=some (.int .i64 L3)/\v.cell? ⟨w.heap.size,4,none⟩=some (.int .i64 L4)) fun hHeld=>?_;refine Tf 0 1 2 3 4 5 ?_;refine AI 6 ?_;clear hHeld;refine Ao 7 fun K hK=>?_;go_simp;(go_at_call 97;refine(HKL.out _).mono ?_;rintro e w3 ⟨rfl,rfl⟩);try(go_wp2_with fail)
     refine An hK fun hHeld=>?_;clear hK K;refine Tf 8 9 10 11 12 13 ?_;refine Tc 14 16 17 ?_;refine AI 18 ?_;clear hHeld;refine Ao 15 fun K hK=>?_;go_simp;(go_at_call 92;refine(HKM.out _ (HC0.out.below (bel HF.out.bel (A5 _))) (HI0.out.below (bel HF.out.bel (A5 _)))).mono ?_;rintro e w3 ⟨rfl,hb3⟩;have HB3:=bel (A5 _) hb3;obtain⟨y0,y1,y2,y3,y4,y5,y6,y7⟩:=HCX.out w3 HB3);try(go_wp2_with fail)
     refine An hK fun hHeld=>?_;clear hK K;refine Tc 19 20 21 ?_;refine AI 22 ?_;refine wpAnyH_done kR ?_ _;go_wp2;go_ret;exact⟨A7 (by simp[hl,hq]),(HF.out.next HB3).bel⟩
def ZL(x e:Int):Int:=if x=0 then 0 else(Ieee.single.nearest (decide (x<0)) x.natAbs e:Nat)
def FQ(s:Bool)(x:Int):Int:=if s then -x else x
def Sj(s1:Bool)(m1 e1:Int)(s2:Bool)(m2 e2:Int):Int:=
 if e1-e2<=36 then ZL (FQ s1 (m1*2^(e1-e2).toNat)+FQ s2 m2) e2 else ZL (FQ s1 (m1*68719476736)+FQ s2 1) (e1-36)
theorem Gy{s:Bool}{m m':Nat}{e e':Int}(h:m=m')(k:e=e'):Ending.returned (.int .i64 ((Ieee.single.nearest s m e:Nat):Int))=.returned (.int .i64 ((Ieee.single.nearest s m' e':Nat):Int)):=by rw[h,k]
theorem MV(s1:Bool)(m1 e1:Int)(i1 n1 s2:Bool)(m2 e2:Int)(i2 n2:Bool)(h1:0<m1)(h2:m1<16777216)(h3:0<m2)(h4:m2<16777216)(h5: -149<=e2)(h6:e2<=e1)(h7:e1<=104)(w:World):
 Calls prog 156 #[.agg #[.bool s1,.int .u64 m1,.int .i64 e1,.bool i1,.bool n1],.agg #[.bool s2,.int .u64 m2,.int .i64 e2,.bool i2,.bool n2]] w fun e w'=>e=.returned (.int .i64 (Sj s1 m1 e1 s2 m2 e2))/\Below w.heap.size w w':=by
 unfold Sj;by_cases c:e1-e2<=36
 ·rw[if_pos c];generalize hd:e1-e2=d at *;have hd0:0<=d:=oM;obtain⟨X,hXX⟩:∃X,m1*2^d.toNat=X:=⟨_,rfl⟩
  have hX:0<X/\X<1152921504606846976:=by
   rw[←hXX];have p1:(1:Int)<=2^d.toNat:=Int.pow_pos dE;have p2:(2:Int)^d.toNat<=68719476736:=by
    have h:2^d.toNat<=68719476736:=Nat.le_trans (Nat.pow_le_pow_right dE (show d.toNat<=36 by omega)) dE;have h':((2^d.toNat:Nat):Int)<=((68719476736:Nat):Int):=Int.ofNat_le.2 h;rw[Int.natCast_pow]at h';exact h'
   refine⟨Int.mul_pos h1 oM,?_⟩;have:=Int.mul_le_mul (show m1<=16777215 by omega) p2 oM oM;omega
  have hw:IntKind.u64.wrap (m1*2^d.toNat)=X:=by rw[hXX,IntKind.wrap_u64];omega
  rw[hXX];clear hXX;cases s1<;>cases s2<;>simp only[FQ,if_true,if_false,Bool.false_eq_true]<;>unfold ZL
  ·rw[if_neg oM,decide_eq_false oM,show(X+m2).natAbs=(X+m2).toNat by omega];exact VR
  ·rcases Int.lt_trichotomy (X+ -m2) 0 with c2|c2|c2
   ·rw[if_neg oM,decide_eq_true oM,show(X+ -m2).natAbs=(-(X+ -m2)).toNat by omega];exact VR
   ·exact Zdf
   ·rw[if_neg oM,decide_eq_false oM,show(X+ -m2).natAbs=(X+ -m2).toNat by omega];exact VR
  ·rcases Int.lt_trichotomy (-X+m2) 0 with c2|c2|c2
   ·rw[if_neg oM,decide_eq_true oM,show(-X+m2).natAbs=(-(-X+m2)).toNat by omega];exact VR
   ·exact Zdf
   ·rw[if_neg oM,decide_eq_false oM,show(-X+m2).natAbs=(-X+m2).toNat by omega];exact VR
  ·rw[if_neg oM,decide_eq_true oM,show(-X+ -m2).natAbs=(-(-X+ -m2)).toNat by omega];exact VR
 ·rw[if_neg c];obtain⟨X,hXX⟩:∃X,m1*68719476736=X:=⟨_,rfl⟩
  have hX:68719476736<=X/\X<1152921504606846976:=oM;have hw:IntKind.u64.wrap (m1*68719476736)=X:=by rw[hXX,IntKind.wrap_u64];omega
  rw[hXX];have hX3:m1*68719476736<18446744073709551616:=oM;cases s1<;>cases s2<;>simp only[FQ,if_true,if_false,Bool.false_eq_true]<;>unfold ZL
  ·rw[if_neg oM,decide_eq_false oM,show(X+1).natAbs=(X+1).toNat by omega];exact VR
  ·rw[if_neg oM,decide_eq_false oM,show(X+ -1).natAbs=(X+ -1).toNat by omega];exact VR
  ·rw[if_neg oM,decide_eq_true oM,show(-X+1).natAbs=(-(-X+1)).toNat by omega];exact VR
  ·rw[if_neg oM,decide_eq_true oM,show(-X+ -1).natAbs=(-(-X+ -1)).toNat by omega];exact VR
def H4(p:Option Addr)(c k sz:Nat):Option Addr:=if c=k then p else p.map (·.add (k*sz))
theorem Sf(p:Option Addr)(h c sz:Nat):sliced p 0 h c sz=.slice p h c:=by
 unfold sliced;by_cases c0:c=0
 ·subst c0;simp
 ·rw[if_neg oM];cases p<;>simp[Addr.add]
theorem Ez{t:TypeId}{sz:Nat}(hu:prog.underlying t=some (.slice (prog.elem t)))(hz:∀w,(sizeOf (prog.elem t)).run prog w=.ok sz w)(p:Option Addr)(n c h:Nat)(hh:h<=c)(w:World):
 (Instr.sliceAt t (.slice p n c) none (some (.int .i64 h)) none).run prog w=.ok (.slice p h c) w:=by
 rw[run_sliceAt_slice (h:=hu),run_slice_h (ht:=hu) (h0:=by omega) (h2:=by omega),hz];rw[Result.andThen_ok,Int.toNat_natCast,Sf p h c sz]
theorem N8{t:TypeId}{sz:Nat}(hu:prog.underlying t=some (.slice (prog.elem t)))(hz:∀w,(sizeOf (prog.elem t)).run prog w=.ok sz w)(p:Option Addr)(n c k:Nat)(hk:k<=n)(w:World):
 (Instr.sliceAt t (.slice p n c) (some (.int .i64 k)) none none).run prog w=.ok (.slice (H4 p c k sz) (n-k) (c-k)) w:=by
 rw[run_sliceAt_slice (h:=hu),run_slice_l (ht:=hu) (h0:=by omega) (h1:=by omega),hz];rw[Result.andThen_ok,Int.toNat_natCast];unfold sliced H4;simp
theorem Yw:prog.underlying 82=some (.slice (prog.elem 82)):=kR
theorem YO:prog.elem 82=3:=kR
theorem Vn(w:World):(sizeOf (prog.elem 82)).run prog w=.ok 1 w:=by rw[YO];exact Tryz.sizeOf3 w
theorem und_B:prog.underlying 101=some (.slice (prog.elem 101)):=kR
theorem YN:prog.elem 101=175:=kR
theorem Zo(w:World):(sizeOf (prog.elem 101)).run prog w=.ok 3 w:=by rw[YN];exact Tryz.sizeOf175 w
theorem Oh:(prog.info? 175).map (fun i=>(i.zero,i.size,i.bytes))=some (some (.agg #[.bool false,.int .i64 0,.int .i64 0]),3,24):=kR
theorem Gt{w:World}{B:Nat}{t:TypeId}{k:Nat}{p:Option Addr}{n c:Nat}{xs:List Value}(h:w.ownsRow B t k (.slice p n c) n xs){m:Nat}(hm:m<=n):w.ownsRow B t k (.slice p m c) m (xs.take (m*k)):=by
 obtain⟨hl,h⟩:=h;have hle:m*k<=n*k:=Nat.mul_le_mul_right k hm;refine⟨by rw[List.length_take,hl];exact Nat.min_eq_left hle,?_⟩;rcases h with⟨hv,h0⟩|⟨g,cap,cur,hv,hB,hg,hc1,hc2,hsz,htk⟩
 ·left;subst h0;have:m=0:=oM;subst this;exact⟨hv,rfl⟩
 ·simp only[Value.slice.injEq]at hv;obtain⟨rfl,-,rfl⟩:=hv;refine .inr ⟨g,c,cur,rfl,hB,hg,oM,hc2,hsz,?_⟩;rw[←htk,List.take_take,Nat.min_eq_left hle]
structure WX(E G C n gi:Nat)(vs vo:Value)(w:World)(S:List Nat)(O:List Bk)(X:Nat->Bool):Prop where
 g:w.rowIs G 103 4 (wkF C gi n vs vo)
 i:w.rowIs gi 4 n (fun j=>.bool (X j))
 set:w.ownsRow E 3 1 vs S.length (G5 S)
 opn:w.ownsRow E 175 3 vo O.length (Co O.reverse)
 hG:E<=G
 hgi:E<=gi
 n1:gi≠G
 n2:vs.ownBlock≠some G
 n3:vs.ownBlock≠some gi
 n4:vo.ownBlock≠some G
 n5:vo.ownBlock≠some gi
 n6:∀b,vs.ownBlock=some b->vo.ownBlock≠some b
section
variable {E G C n gi : Nat} {vs vo : Value} {w w' : World} {S : List Nat} {O : List Bk} {X : Nat -> Bool} {s : Wk}
theorem WS.x(h:WS E G C n gi vs vo w s):WX E G C n gi vs vo w s.set s.opens (fun j=>decide (j∈s.set)):=⟨h.g,h.i,h.set,h.opn,h.hG,h.hgi,h.n1,h.n2,h.n3,h.n4,h.n5,h.n6⟩
theorem WX.st(h:WX E G C n gi vs vo w s.set s.opens X)(hx:∀j,j<n->X j=decide (j∈s.set)):WS E G C n gi vs vo w s:=
 ⟨h.g,h.i.congr fun j hj=>by rw[hx j hj],h.set,h.opn,h.hG,h.hgi,h.n1,h.n2,h.n3,h.n4,h.n5,h.n6⟩
theorem WX.below(h:WX E G C n gi vs vo w S O X)(k:Below w.heap.size w w'):WX E G C n gi vs vo w' S O X:=
 ⟨h.g.of_block (k.block _ h.g.lt),h.i.of_block (k.block _ h.i.lt),AA h.set k,AA h.opn k,h.hG,h.hgi,h.n1,h.n2,h.n3,h.n4,h.n5,h.n6⟩
theorem WX.c1(h:WX E G C n gi vs vo w S O X):w.cell? ⟨G,1,none⟩=some (.slice (some ⟨gi,0,none⟩) n n):=h.g.cell (i:=1) dE
theorem WX.c2(h:WX E G C n gi vs vo w S O X):w.cell? ⟨G,2,none⟩=some vs:=h.g.cell (i:=2) dE
theorem WX.lt(h:WX E G C n gi vs vo w S O X):E<=w.heap.size:=Nat.le_trans h.hG (Nat.le_of_lt h.g.lt)
theorem WX.opens{vo':Value}{O':List Bk}(h:WX E G C n gi vs vo w S O X)(ho:w.ownsRow E 175 3 vo' O'.length (Co O'.reverse))(m4:vo'.ownBlock≠some G)(m5:vo'.ownBlock≠some gi)(m6:∀b,vs.ownBlock=some b->vo'.ownBlock≠some b):
 WX E G C n gi vs vo' (w.setCell ⟨G,3,none⟩ vo') S O' X:=by
 have nb:∀b,b≠G->(w.setCell ⟨G,3,none⟩ vo').heap[b]? =w.heap[b]? :=fun b hb=>Below.heap_setCell _ _ _ _ hb;refine⟨(h.g.set 3 vo').congr fun j hj=>?_,h.i.of_block (nb _ h.n1),AF h.set fun b hb=>nb b fun e=>h.n2 (e▸hb),AF ho fun b hb=>nb b fun e=>m4 (e▸hb),h.hG,h.hgi,h.n1,h.n2,h.n3,m4,m5,m6⟩;exact Zdr
theorem WX.sets{vs':Value}{S':List Nat}(h:WX E G C n gi vs vo w S O X)(hs:w.ownsRow E 3 1 vs' S'.length (G5 S'))(m2:vs'.ownBlock≠some G)(m3:vs'.ownBlock≠some gi)(m6:∀b,vs'.ownBlock=some b->vo.ownBlock≠some b):
 WX E G C n gi vs' vo (w.setCell ⟨G,2,none⟩ vs') S' O X:=by
 have nb:∀b,b≠G->(w.setCell ⟨G,2,none⟩ vs').heap[b]? =w.heap[b]? :=fun b hb=>Below.heap_setCell _ _ _ _ hb;refine⟨(h.g.set 2 vs').congr fun j hj=>?_,h.i.of_block (nb _ h.n1),AF hs fun b hb=>nb b fun e=>m2 (e▸hb),AF h.opn fun b hb=>nb b fun e=>h.n4 (e▸hb),h.hG,h.hgi,h.n1,m2,m3,h.n4,h.n5,m6⟩;exact Zdr
theorem WX.put(h:WX E G C n gi vs vo w S O X)(x:Nat)(v:Bool):WX E G C n gi vs vo (w.setCell ⟨gi,x,none⟩ (.bool v)) S O (fun j=>if j=x then v else X j):=by
 have nb:∀b,b≠gi->(w.setCell ⟨gi,x,none⟩ (.bool v)).heap[b]? =w.heap[b]? :=fun b hb=>Below.heap_setCell _ _ _ _ hb;refine⟨h.g.of_block (nb _ (Ne.symm h.n1)),(h.i.set x (.bool v)).congr fun j hj=>?_,AF h.set fun b hb=>nb b fun e=>h.n3 (e▸hb),AF h.opn fun b hb=>nb b fun e=>h.n5 (e▸hb),h.hG,h.hgi,h.n1,h.n2,h.n3,h.n4,h.n5,h.n6⟩;show(if j=x then _ else _)=_;split<;>rfl
theorem WX.of{X':Nat->Bool}(h:WX E G C n gi vs vo w S O X)(e:∀j,j<n->X j=X' j):WX E G C n gi vs vo w S O X':=
 ⟨h.g,h.i.congr fun j hj=>by rw[e j hj],h.set,h.opn,h.hG,h.hgi,h.n1,h.n2,h.n3,h.n4,h.n5,h.n6⟩
theorem WX.grown{row:Option Nat}(h:WX E G C n gi vs vo w S O X)(hg:w.grownBy w' row)(hr:row=vo.ownBlock\/row=vs.ownBlock):
 w'.rowIs G 103 4 (wkF C gi n vs vo)/\w'.rowIs gi 4 n (fun j=>.bool (X j))/\(row=vo.ownBlock->w'.ownsRow E 3 1 vs S.length (G5 S))/\(row=vs.ownBlock->w'.ownsRow E 175 3 vo O.length (Co O.reverse)):=by
 have k1:some G≠row:=fun e=>by
  rcases hr with hr|hr
  ·rw[hr]at e;exact h.n4 e.symm
  ·rw[hr]at e;exact h.n2 e.symm
 have k2:some gi≠row:=fun e=>by
  rcases hr with hr|hr
  ·rw[hr]at e;exact h.n5 e.symm
  ·rw[hr]at e;exact h.n3 e.symm
 exact⟨h.g.of_block (hg.block _ h.g.lt k1),h.i.of_block (hg.block _ h.i.lt k2),fun hr=>AF h.set fun b hb=>hg.block b (h.set.lt b hb).2 fun e=>h.n6 b hb (by rw[←hr];exact e.symm),fun hr=>AF h.opn fun b hb=>hg.block b (h.opn.lt b hb).2 fun e=>h.n6 b (by rw[←hr];exact e.symm) hb⟩
end
structure LW(E G C n gi:Nat)(vs vo:Value)(w:World)(S:List Nat)(O:List Bk)(X:Nat->Bool)(H:Nat)(L:Bool)(A:Nat)(v:World):Prop where
 bel:Below E w v
 st:WX E G C n gi vs vo v S O X
 b0:v.cell? ⟨H,0,none⟩=some (.bool L)
 b2:v.cell? ⟨H,2,none⟩=some (.int .i64 (A:Int))
 hH:H≠G
 hI:H≠gi
 off:∀k,k<w.heap.size->k≠G->k≠gi->v.heap[k]? =w.heap[k]?
section
variable {E G C n gi : Nat} {vs vo : Value} {w v v' : World} {S : List Nat} {O : List Bk} {X : Nat -> Bool} {H : Nat} {L : Bool} {A : Nat}
theorem LW.below(h:LW E G C n gi vs vo w S O X H L A v)(k:Below v.heap.size v v'):LW E G C n gi vs vo w S O X H L A v':=
 ⟨h.bel.trans (k.mono h.st.lt),h.st.below k,kc k h.b0,kc k h.b2,h.hH,h.hI,fun j hj h1 h2=>(k.block j (Nat.lt_of_lt_of_le hj h.bel.size)).trans (h.off j hj h1 h2)⟩
theorem LW.put(h:LW E G C n gi vs vo w S O X H L A v)(x:Nat)(b:Bool):LW E G C n gi vs vo w S O (fun j=>if j=x then b else X j) H L A (v.setCell ⟨gi,x,none⟩ (.bool b)):=by
 have f:∀j,(v.setCell ⟨gi,x,none⟩ (.bool b)).cell? ⟨H,j,none⟩=v.cell? ⟨H,j,none⟩:=fun j=>World.cell?_of_block (Below.heap_setCell _ _ _ _ h.hI);exact⟨h.bel.setCell h.st.hgi _,h.st.put x b,(f 0).trans h.b0,(f 2).trans h.b2,h.hH,h.hI,fun j hj h1 h2=>(Below.heap_setCell _ _ _ _ h2).trans (h.off j hj h1 h2)⟩
theorem LW.of{X':Nat->Bool}(h:LW E G C n gi vs vo w S O X H L A v)(e:∀j,j<n->X j=X' j):LW E G C n gi vs vo w S O X' H L A v:=⟨h.bel,h.st.of e,h.b0,h.b2,h.hH,h.hI,h.off⟩
end
theorem Lx{w:World}{B:Nat}{t:TypeId}{k:Nat}{p:Option Addr}{n c:Nat}{xs:List Value}(h:w.ownsRow B t k (.slice p n c) n xs):n<=c:=by
 rcases h.2 with⟨hv,h0⟩|⟨g,cap,cur,hv,hB,hg,hc1,hc2,hsz,htk⟩
 ·omega
 ·simp only[Value.slice.injEq]at hv;omega
theorem Vk{w:World}{B:Nat}{t:TypeId}{p:Option Addr}{c:Nat}{S:List Nat}(h:w.ownsRow B t 1 (.slice p S.length c) S.length (G5 S)){A j:Nat}(hj:A+j<S.length):
 ∃g,p=some ⟨g,0,none⟩/\H4 p c A 1=some ⟨g,A,none⟩/\w.cell? ⟨g,A+j,none⟩=some (.int .i64 (S[A+j]:Int)):=by
 obtain⟨g,cap,hv,_,_,hc1,_,hcl⟩:=DF h oM;simp only[Value.slice.injEq]at hv;obtain⟨rfl,-,rfl⟩:=hv;refine⟨g,rfl,?_,hcl _ _ (by simp[G5,List.getElem?_eq_getElem hj])⟩;unfold H4;rw[if_neg oM];by_cases h0:A=0
 ·subst h0;simp[Addr.add]
 ·simp[Addr.add,h0]
theorem EI(p:Option Addr)(a b c:Nat):(Value.slice p a c).ownBlock=(Value.slice p b c).ownBlock:=by cases p<;>rfl
def EH(S:List Nat)(A q:Nat)(j:Nat):Bool:=decide (j∈S)&& !decide (j∈(S.drop A).take q)
theorem JX(S:List Nat)(A j:Nat):EH S A 0 j=decide (j∈S):=by simp[EH]
theorem Rr{S:List Nat}{A q:Nat}(h:A+q<S.length)(j:Nat):(if j=S[A+q]then false else EH S A q j)=EH S A (q+1) j:=by
 have e:(S.drop A).take (q+1)=(S.drop A).take q++[S[A+q]]:=by
  rw[List.take_succ_eq_append_getElem (by rw[List.length_drop];omega)];simp
 unfold EH;rw[e];by_cases hj:j=S[A+q]
 ·rw[if_pos hj,hj];simp
 ·rw[if_neg hj];simp[hj]
theorem TQ{S:List Nat}{A:Nat}(hd:S.Nodup)(j:Nat):EH S A (S.length-A) j=decide (j∈S.take A):=by
 have e:(S.drop A).take (S.length-A)=S.drop A:=List.take_of_length_le sM;unfold EH;rw[e];have hs:S=S.take A++S.drop A:=(List.take_append_drop A S).symm;have hd':=hd;rw[hs,List.nodup_append]at hd';by_cases h1:j∈S.take A
 ·have h2:j∉S.drop A:=fun h2=>hd'.2.2 j h1 j h2 rfl;have h3:j∈S:=List.mem_of_mem_take h1;simp[h1,h2,h3]
 ·by_cases h2:j∈S.drop A
  ·simp[h1,h2]
  ·have h3:j∉S:=fun h3=>by rw[hs]at h3;exact(List.mem_append.1 h3).elim h1 h2
   simp[h1,h3]
theorem Rj(E G C n gi:Nat)(vs vo:Value)(s:Wk)(w:World)(h:WS E G C n gi vs vo w s)(ok:Dm n s)(hn:n<=16384)(hop:s.opens≠[]):
 Calls prog 98 #[.pointer (some ⟨G,0,none⟩)] w fun e w'=>e=.returned (.tuple #[])/\Below E w w'/\(∀k,k<w.heap.size->k≠G->k≠gi->w'.heap[k]? =w.heap[k]?)/\∃vs' vo',WS E G C n gi vs' vo' w' (AM s):=by
 obtain⟨S,O⟩:=s;cases O with
 |nil=>exact absurd rfl hop
 |cons bk r=>
  clear hop;obtain⟨L,P,A⟩:=bk;have hlen:=ok.len;obtain⟨hnd,hlt,⟨hA,hAr⟩,hne⟩:=ok;simp only at hnd hlt hA hAr hne hlen;have hx:=h.x;have hG:=h.g.lt;have hgi:=h.i.lt;have hE:=h.lt;obtain⟨g,cap,rfl,hE2,hg,hc1,hc2,hcl⟩:=DF h.opn sM;obtain⟨pS,cS,rfl⟩:=Bl h.set;have hcs:=Lx h.set;simp only at hcs;have hl:r.reverse.length=r.length:=List.length_reverse;simp only[List.reverse_cons]at hcl;have x0:=hcl (r.length*3) (.bool L) Zgm;have x1:=hcl (r.length*3+1) (.int .i64 P) Zgj;have x2:=hcl (r.length*3+2) (.int .i64 A) Zgi;have c3:=h.c3;have HX:Hid (WX E G C n gi (.slice pS S.length cS) (.slice (some ⟨g,0,none⟩) (r.length+1) cap) w S (⟨L,P,A⟩::r) (fun j=>decide (j∈S))):=hx;simp only[List.length_cons]at c3 hne hc1;have HL1:Hid (LW E G C n gi (.slice pS S.length cS) (.slice (some ⟨g,0,none⟩) r.length cap) w S r (EH S A 0) w.heap.size L A ((w.setCell ⟨G,3,none⟩ (.slice (some ⟨g,0,none⟩) r.length cap)).alloc (.cells #[.bool L,.int .i64 P,.int .i64 (A:Int)] 175))):=by
   have ho:=Gt (m:=r.length) hx.opn sM;have he:(Co ((⟨L,P,A⟩::r).reverse)).take (r.length*3)=Co r.reverse:=by
    rw[List.reverse_cons,Fa,List.take_append_of_le_length (by rw[Dz,hl];exact Nat.le_refl _),List.take_of_length_le (by rw[Dz,hl];exact Nat.le_refl _)]
   rw[he]at ho;have hs:(w.setCell ⟨G,3,none⟩ (.slice (some ⟨g,0,none⟩) r.length cap)).heap.size=w.heap.size:=sM;have q:=hx.opens ho hx.n4 hx.n5 hx.n6;obtain⟨V,hV⟩:∃V,w.setCell ⟨G,3,none⟩ (.slice (some ⟨g,0,none⟩) r.length cap)=V:=⟨_,rfl⟩
   have hbV:Below E w V:=by rw[←hV];exact(Below.refl E w).setCell hx.hG _
   have hoV:∀k,k≠G->V.heap[k]? =w.heap[k]? :=fun k hk=>by rw[←hV];exact Below.heap_setCell _ _ _ _ hk
   rw[hV]at hs q ⊢;exact⟨hbV.alloc oM _,(q.below (A0 V _)).of fun j _=>(JX S A j).symm,by rw[←hs];simp[go_sem],by rw[←hs];simp[go_sem],oM,oM,fun k hk h1 _=>(Below.heap_alloc _ _ _ oM).trans (hoV k h1)⟩
  have HOW:Hid (∀v,WX E G C n gi (.slice pS S.length cS) (.slice (some ⟨g,0,none⟩) r.length cap) v S r (EH S A (S.length-A))->WS E G C n gi (.slice pS A cS) (.slice (some ⟨g,0,none⟩) r.length cap) (v.setCell ⟨G,2,none⟩ (.slice pS A cS)) ⟨S.take A,r⟩):=fun v hv=>by
   have ho:=Gt (m:=A) hv.set hA;rw[Nat.mul_one,Sc]at ho;have hlA:(S.take A).length=A:=by rw[List.length_take];omega
   have ho':v.ownsRow E 3 1 (.slice pS A cS) (S.take A).length (G5 (S.take A)):=by rw[hlA];exact ho
   have q:=hv.sets (vs':=.slice pS A cS) (S':=S.take A) ho' (by rw[EI pS A S.length cS];exact hv.n2) (by rw[EI pS A S.length cS];exact hv.n3) (by rw[EI pS A S.length cS];exact hv.n6);exact WX.st (s:=⟨S.take A,r⟩) q fun j _=>TQ hnd j
  have HFR:Hid (∀v:World,v.ownsRow E 3 1 (.slice pS S.length cS) S.length (G5 S)->∀j,A+j<S.length->∃ (gs x:Nat),H4 pS cS A 1=some ⟨gs,A,none⟩/\v.cell? ⟨gs,A+j,none⟩=some (.int .i64 (x:Int))/\x<n/\∀i,(if i=x then false else EH S A j i)=EH S A (j+1) i):=fun v hv j hj=>by
   obtain⟨gs,_,h2,h3⟩:=Vk hv hj;exact⟨gs,S[A+j],h2,h3,hlt _ (List.getElem_mem hj),fun i=>Rr hj i⟩
  have HLT:Hid (WX E G C n gi (.slice pS S.length cS) (.slice (some ⟨g,0,none⟩) r.length cap) w S r (EH S A 0)->True):=fun _=>trivial;have HL3:Hid (∀v,WX E G C n gi (.slice pS S.length cS) (.slice (some ⟨g,0,none⟩) r.length cap) v S r (EH S A 0)->WS E G C n gi (.slice pS S.length cS) (.slice (some ⟨g,0,none⟩) r.length cap) v ⟨S,r⟩):=fun v hv=>WX.st (s:=⟨S,r⟩) hv fun j _=>JX S A j;have s1:=fun w=>Ez und_B Zo (some ⟨g,0,none⟩) (r.length+1) cap r.length oM w;have s2:=fun w=>N8 Yw Vn pS S.length cS A hA w;have s3:=fun w=>Ez Yw Vn pS S.length cS A oM w;obtain⟨m,hm⟩:∃m,r.length=m:=⟨_,rfl⟩
  obtain⟨K,hK⟩:∃K,S.length=K:=⟨_,rfl⟩
  obtain⟨pF,hpF⟩:∃p,H4 pS cS A 1=p:=⟨_,rfl⟩
  simp only[AM];rw[hm]at x0 x1 x2 c3 hne hc1 s1 HX HL1 HOW HL3;rw[hK]at s2 s3 HL1 HOW HL3 hA hlen hcs HX;simp only[hpF]at s2;simp only[hpF,hK]at HFR;have HD:Hid (K-A<=16384):=by show _<=_;omega
  obtain⟨N,hN⟩:∃N,m+1=N:=⟨_,rfl⟩
  rw[hN]at c3 hne hc1 s1 HX;obtain⟨D,hD⟩:∃D,K-A=D:=⟨_,rfl⟩
  rw[hD]at s2 HOW HD;have HDD:Hid (K-A=D):=hD;have HKK:Hid (S.length=K):=hK;have hw:IntKind.i64.wrap ((N:Int)-1)=(m:Int):=by rw[IntKind.wrap_i64];omega
  have i1:(0:Int)<=(m:Int):=oM;have i2:(m:Int)<(N:Int):=oM;have ng:g≠w.heap.size:=oM;have nG:G≠w.heap.size:=oM;have fz:=h.g.frozen 3;have HB0:Hid (D<=16384):=HD;have hDb:D<=16384:=HD.out;clear hcl hl hm hK hpF hN hD h hx hAr hlt hnd HLT HD;go_enter func98,ntmps98;go_upto_region 2 with fail;go_cut [3] (fun bv wx=>bv=.pointer (some ⟨w.heap.size,0,none⟩)/\LW E G C n gi (.slice pS K cS) (.slice (some ⟨g,0,none⟩) m cap) w S r (EH S A 0) w.heap.size L A wx)
  case first=>
   go_wp2;go_meet;exact⟨rfl,HL1.out⟩
  case rest=>
   obtain⟨rfl,lw⟩:=hcut;have HLW:Hid (LW E G C n gi (.slice pS K cS) (.slice (some ⟨g,0,none⟩) m cap) w S r (EH S A 0) w.heap.size L A wc):=lw;have b0:=lw.b0;have b2:=lw.b2;have d2:=lw.st.c2;clear lw HL1 HX x0 x1 x2 c3 fz;cases L
   ·go_wp2;refine rG (fun v=>v.cell? ⟨G,2,none⟩=some (.slice pS K cS)/\v.cell? ⟨w.heap.size,2,none⟩=some (.int .i64 (A:Int))) fun hHeld=>?_;refine Tf 0 1 2 3 4 5 ?_;refine Tc 6 7 8 ?_;refine wpAnyH_done kR ?_ _;go_wp2
    go_loopw [38] (fun iv wr=>∃j:Nat,j<=D/\iv=.int .i64 j/\LW E G C n gi (.slice pS K cS) (.slice (some ⟨g,0,none⟩) m cap) w S r (EH S A j) w.heap.size false A wr) (fun iv _=>D-(intOf iv).toNat)
    case atStart=>exact⟨0,Nat.zero_le _,rfl,HLW.out.below (A5 _)⟩
    case round=>
     clear HLW b0 b2 d2;obtain⟨j,hj,rfl,lw⟩:=hrel;have HLW:Hid (LW E G C n gi (.slice pS K cS) (.slice (some ⟨g,0,none⟩) m cap) w S r (EH S A j) w.heap.size false A wr):=lw;by_cases hlt:j<D
     ·obtain⟨gs,x,rfl,xj,hxn,hsv⟩:=HFR.out wr (by have:=lw.st.set;rw[HKK.out]at this;exact this) j (by have:=HDD.out;omega);have HSV:Hid (∀i,(if i=x then false else EH S A j i)=EH S A (j+1) i):=hsv;have d1:=lw.st.c1;have y1:=lw.st.i.cell hxn;have y2:=lw.st.i.frozen x;have i3:(0:Int)<=(j:Int):=oM;have i4:(j:Int)<(D:Int):=oM;have i5:(0:Int)<=(x:Int):=oM;have i6:(x:Int)<(n:Int):=oM;clear lw hsv;go_wp2;go_roundw
      case rel=>exact⟨j+1,oM,gN,(HLW.out.put x false).of fun i _=>HSV.out i⟩
      case measure=>simp[intOf];omega
     ·have:j=D:=oM;subst this;have d2:=lw.st.c2;have b2:=lw.b2;have d3:=lw.st.g.frozen 2;have hGr:G≠w.heap.size:=oM;clear lw;go_wp2;refine rG (fun v=>v.cell? ⟨w.heap.size,2,none⟩=some (.int .i64 (A:Int))) fun hHeld=>?_;refine Tf 0 1 2 3 5 6 ?_;clear hHeld;refine Ao 4 fun K hK=>?_;go_simp;refine An hK fun hHeld=>?_;clear hK K;refine Tc 7 8 9 ?_;clear hHeld;refine Ao 10 fun K hK=>?_;go_simp;refine An hK fun hHeld=>?_;clear hK K;refine wpAnyH_done kR ?_ _;go_wp2;first|go_end0|(simp only[Exit.inBlock,Exit.then];refine bodyPost_ret (results_none rfl _ _ _) rfl ?_)|refine bodyPost_ret (results_none rfl _ _ _) rfl ?_
      exact⟨rfl,(HLW.out.bel.drew).setCell HLW.out.st.hG _,fun k hk h1 h2=>(Below.heap_setCell _ _ _ _ h1).trans (HLW.out.off k hk h1 h2),_,_,HOW.out _ (HLW.out.below (A5 _)).st⟩
   ·go_wp2;first|go_end0|(simp only[Exit.inBlock,Exit.then];refine bodyPost_ret (results_none rfl _ _ _) rfl ?_)|refine bodyPost_ret (results_none rfl _ _ _) rfl ?_
    exact⟨rfl,HLW.out.bel,HLW.out.off,_,_,HL3.out _ HLW.out.st⟩
theorem J2{P:Program}{w w':World}{ops:Array Oper}{o:Oper}{a:Act}{K:Act->World->Prop}{Q:Exit->Act->World->Prop}{E:Prop}(hgd:o.guard=none)(s x:Operand)(t:TypeId)
 (ho:o.op=.call {callee:=.builtin .append,args:=#[s,x],argTypes:=#[t,t]}) (v v2 v':Value) (hs:a.eval s=v) (hx:a.eval x=v2) (hr:(Builtin.append_ #[t,t] o.type #[v,v2]).run P w=.ok v' w') (h:K (a.put o.dst v') w'):
 if Region.wanted o (yielded ops a.tmps)=true then Oper.wp P o a w K Q else E:=by
 have hw:Region.wanted o (yielded ops a.tmps)=true:=by simp[Region.wanted,hgd]
 rw[if_pos hw];exact Zei
section
variable {E G C n gi : Nat} {vs vo : Value} {V : World} {S : List Nat} {O : List Bk} {X : Nat -> Bool}
theorem We(h:WX E G C n gi vs vo V S O X)(hS:S.length<=16384)(x:Nat):
 ∃g cap w3,(Builtin.append_ #[82,82] 82 #[vs,.slice (some ⟨V.heap.size,0,none⟩) 1 1]).run prog (V.drew.alloc (.cells #[.int .i64 (x:Int)] 3))=.ok (.slice (some ⟨g,0,none⟩) (S.length+1) cap) w3/\Below E V w3/\w3.cell? ⟨G,2,none⟩=some vs/\w3.frozen? ⟨G,2,none⟩=false/\
  WX E G C n gi (.slice (some ⟨g,0,none⟩) (S.length+1) cap) vo (w3.setCell ⟨G,2,none⟩ (.slice (some ⟨g,0,none⟩) (S.length+1) cap)) (S++[x]) O X:=by
 obtain⟨i0,hi0,hz0,hz1,hz2⟩:=info_parts Er;have hb0:Below V.heap.size V (V.drew.alloc (.cells #[.int .i64 (x:Int)] 3)):=bel (A5 V) (A0 _ _);have h0:=h.below hb0;have hlt0:=h.lt;obtain⟨g,cap,w3,hr,hown,hgrow,hat,hlt⟩:=run_append_lies (P:=prog) (V.drew.alloc (.cells #[.int .i64 (x:Int)] 3)) 82 82 E 3 i0 _ 1 8 underlying82 hi0 hz0 hz1 hz2 rfl dE vs S.length (G5 S) h0.set ⟨V.heap.size,0,none⟩ 1 1 [.int .i64 (x:Int)] rfl
  (World.news_of_block (cs:=#[.int .i64 (x:Int)]) (t:=3) (fr:=(0,0)) (heap_alloc_new V.drew _)) SD dE mL oM sO _ rfl
 obtain⟨k1,k2,-,k4⟩:=h0.grown hgrow (.inr rfl);have hG:=h.g.lt;have hgi:=h.i.lt;have hsz:(V.drew.alloc (.cells #[.int .i64 (x:Int)] 3)).heap.size=V.heap.size+1:=sM;have m2:g≠G:=by
  rcases hat with hat|hat
  ·exact fun e=>h.n2 (e▸hat)
  ·omega
 have m3:g≠gi:=by
  rcases hat with hat|hat
  ·exact fun e=>h.n3 (e▸hat)
  ·omega
 have m6:∀b,vo.ownBlock=some b->g≠b:=fun b hb e=>by
  rcases hat with hat|hat
  ·exact h.n6 g hat (e▸hb)
  ·have:=(h.opn.lt b hb).2;omega
 have hV3:WX E G C n gi vs vo w3 S O X->True:=fun _=>trivial;have hn:(S++[x]).length=S.length+1:=sM;have o4:=k4 rfl;refine⟨g,cap,w3,hr,?_,k1.cell (i:=2) dE,k1.frozen 2,?_⟩
 ·exact(hb0.mono hlt0).grown hgrow oM (fun q e=>(h0.set.lt q e).1)
 ·have nb:∀b,b≠G->(w3.setCell ⟨G,2,none⟩ (.slice (some ⟨g,0,none⟩) (S.length+1) cap)).heap[b]? =w3.heap[b]? :=fun b hb=>Below.heap_setCell _ _ _ _ hb;refine⟨(k1.set 2 _).congr fun j hj=>?_,k2.of_block (nb _ h.n1),?_,AF o4 fun b hb=>nb b fun e=>h.n4 (e▸hb),h.hG,h.hgi,h.n1,fun e=>m2 (Option.some.inj e),fun e=>m3 (Option.some.inj e),h.n4,h.n5,fun b e hb=>m6 b hb (Option.some.inj e)⟩
  ·exact Zdr
  ·rw[hn,Sa];exact AF hown fun b hb=>nb b fun e=>m2 (by rw[←e];exact Option.some.inj hb)
theorem M5(h:WX E G C n gi vs vo V S O X)(hO:O.length<=64)(L:Bool)(P:Int)(A:Nat):
 ∃g cap w3,(Builtin.append_ #[101,101] 101 #[vo,.slice (some ⟨V.heap.size,0,none⟩) 1 1]).run prog (V.drew.alloc (.cells #[.bool L,.int .i64 P,.int .i64 (A:Int)] 175))=.ok (.slice (some ⟨g,0,none⟩) (O.length+1) cap) w3/\Below E V w3/\w3.cell? ⟨G,3,none⟩=some vo/\w3.frozen? ⟨G,3,none⟩=false/\w3.cell? ⟨G,2,none⟩=some vs/\
  (∀a,a.block<V.heap.size->vo.ownBlock≠some a.block->w3.cell? a=V.cell? a)/\
  WX E G C n gi vs (.slice (some ⟨g,0,none⟩) (O.length+1) cap) (w3.setCell ⟨G,3,none⟩ (.slice (some ⟨g,0,none⟩) (O.length+1) cap)) S (⟨L,P,A⟩::O) X:=by
 obtain⟨i0,hi0,hz0,hz1,hz2⟩:=info_parts Oh;have hb0:Below V.heap.size V (V.drew.alloc (.cells #[.bool L,.int .i64 P,.int .i64 (A:Int)] 175)):=bel (A5 V) (A0 _ _);have h0:=h.below hb0;have hlt0:=h.lt;obtain⟨g,cap,w3,hr,hown,hgrow,hat,hlt⟩:=run_append_lies (P:=prog) (V.drew.alloc (.cells #[.bool L,.int .i64 P,.int .i64 (A:Int)] 175)) 101 101 E 175 i0 _ 3 24 underlying101 hi0 hz0 hz1 hz2 rfl dE vo O.length (Co O.reverse) h0.opn ⟨V.heap.size,0,none⟩ 1 1 (YH ⟨L,P,A⟩) rfl
  (World.news_of_block (cs:=#[.bool L,.int .i64 P,.int .i64 (A:Int)]) (t:=175) (fr:=(0,0)) (heap_alloc_new V.drew _)) (by simp[YH,Value.oneCell']) dE mL oM sO _ rfl
 obtain⟨k1,k2,k3,-⟩:=h0.grown hgrow (.inl rfl);have hG:=h.g.lt;have hgi:=h.i.lt;have hsz:(V.drew.alloc (.cells #[.bool L,.int .i64 P,.int .i64 (A:Int)] 175)).heap.size=V.heap.size+1:=sM;have m2:g≠G:=by
  rcases hat with hat|hat
  ·exact fun e=>h.n4 (e▸hat)
  ·omega
 have m3:g≠gi:=by
  rcases hat with hat|hat
  ·exact fun e=>h.n5 (e▸hat)
  ·omega
 have m6:∀b,vs.ownBlock=some b->g≠b:=fun b hb e=>by
  rcases hat with hat|hat
  ·exact h.n6 b hb (e▸hat)
  ·have:=(h.set.lt b hb).2;omega
 have o3:=k3 rfl;refine⟨g,cap,w3,hr,?_,k1.cell (i:=3) dE,k1.frozen 3,k1.cell (i:=2) dE,fun a ha hb=>?_,?_⟩
 ·exact(hb0.mono hlt0).grown hgrow oM (fun q e=>(h0.opn.lt q e).1)
 ·rw[World.cell?_of_block (hgrow.block a.block oM (Ne.symm hb)),hb0.cell ha]
 ·have nb:∀b,b≠G->(w3.setCell ⟨G,3,none⟩ (.slice (some ⟨g,0,none⟩) (O.length+1) cap)).heap[b]? =w3.heap[b]? :=fun b hb=>Below.heap_setCell _ _ _ _ hb;refine⟨(k1.set 3 _).congr fun j hj=>?_,k2.of_block (nb _ h.n1),AF o3 fun b hb=>nb b fun e=>h.n2 (e▸hb),?_,h.hG,h.hgi,h.n1,h.n2,h.n3,fun e=>m2 (Option.some.inj e),fun e=>m3 (Option.some.inj e),fun b hb e=>m6 b hb (Option.some.inj e)⟩
  ·exact Zdr
  ·rw[List.reverse_cons,Fa];exact AF hown fun b hb=>nb b fun e=>m2 (by rw[←e];exact Option.some.inj hb)
end
theorem Ov(p t k n δ:Nat)(hp:1<=p)(ht:1<=t)(hk:2^p<=k)(hk2:k<2*2^p)(h:n=k*2^t+δ\/n+δ=k*2^t)(hδ:4*δ<2^t):F6 p n 1 (t*2^p+k):=by
 have hB:0<2^p:=Nat.two_pow_pos p;have v0:V p (t*2^p+k)=k*2^t:=Ef p t k oM (Or.inr hk);have v1:V p (t*2^p+k+1)=(k+1)*2^t:=by rw[Nat.add_assoc];exact Ef p t (k+1) oM (Or.inr oM)
 have e1:(k+1)*2^t=k*2^t+2^t:=by rw[Nat.add_mul,Nat.one_mul]
 have hlow:∀q,t*2^p+k=q+1->2*(V p q)+2^t<=2*(k*2^t):=by
  intro q hq;have hst:=GP p q;rw[←hq,v0]at hst;have:t-1<=q/2^p-1:=by
   have:t<=q/2^p:=(Nat.le_div_iff_mul_le hB).2 oM;omega
  have hle:2^(t-1)<=2^(q/2^p-1):=Nat.pow_le_pow_right dE this;have:2^t=2*2^(t-1):=by
   obtain⟨e,rfl⟩:∃e,t=e+1:=⟨t-1,oM⟩
   rw[Nat.add_sub_cancel,Nat.pow_succ,Nat.mul_comm]
  omega
 refine⟨?_,?_,?_,?_⟩
 ·rw[v0,v1,e1,Nat.mul_one];omega
 ·rw[v0,v1,e1,Nat.mul_one];omega
 ·intro q hq;have:=hlow q hq;rw[v0,Nat.mul_one];omega
 ·intro q hq;have:=hlow q hq;rw[v0,Nat.mul_one];omega
theorem Me(m:Nat)(e:Int)(x δ:Nat)(i:Int)(hm:8388608<=m)(hm2:m<16777216)(hi: -113<i)(j:Int)(hj: -149<=j)(u:Nat)(hu:(u:Int)=i-j)(hx:x=m*2^u+δ\/x+δ=m*2^u)(hδ:4*δ<2^u):
 BR 23 (-149) x j=(i+149).toNat*8388608+m:=by
 obtain⟨c,hc⟩:∃c:Nat,(c:Int)=j+149:=⟨(j+149).toNat,oM⟩
 have h1:=Df 23 (-149) x j dE c 0 oM;have ht:(i+149).toNat=u+c:=oM;have h2:F6 23 (x*2^c) 1 ((i+149).toNat*2^23+m):=by
  refine Ov 23 (i+149).toNat m (x*2^c) (δ*2^c) dE oM oM oM ?_ ?_
  ·rw[ht,Nat.pow_add,←Nat.mul_assoc,←Nat.add_mul];rcases hx with hx|hx
   ·left;rw[hx]
   ·right;rw[←Nat.add_mul,hx]
  ·rw[ht,Nat.pow_add,←Nat.mul_assoc];exact Nat.mul_lt_mul_of_pos_right hδ (Nat.two_pow_pos c)
 exact h1.unique h2 dE dE sM
theorem H5(s:Bool)(m u:Nat):Ieee.signed s m u=FQ s ((m:Int)*2^u):=by
 unfold Ieee.signed FQ;rw[Nat.shiftLeft_eq];push_cast;rfl
theorem Ck(a b:Int){d e:Ieee.Datum}(h:Ieee.single.read a.toNat=d)(k:Ieee.single.read b.toNat=e):CC a b=PM ((d.sum e).map Ieee.single.write):=by
 unfold CC Ieee.Format.add;rw[h,k]
theorem FA(s:Bool)(e:Int):((Ieee.single.nearest s 0 e:Nat):Int)=GF s:=by
 exact Zfo
theorem Nc(s1:Bool)(m1 e1:Int)(s2:Bool)(m2 e2:Int)(h1:0<m1)(h2:m1<16777216)(h3:0<m2)(h4:m2<16777216)(h5: -149<=e2)(h6:e2<=e1)(h7:e1= -149\/8388608<=m1):
 PM (((Ieee.Datum.number s1 m1.toNat e1).sum (.number s2 m2.toNat e2)).map Ieee.single.write)=Sj s1 m1 e1 s2 m2 e2:=by
 simp only[Ieee.Datum.sum,Option.map_some,Ieee.Format.write];rw[show min e1 e2=e2 by omega,show(e2-e2).toNat=0 by omega,H5,H5,Int.toNat_of_nonneg oM,Int.toNat_of_nonneg oM,Int.pow_zero,Int.mul_one];have hP:(1:Int)<=2^(e1-e2).toNat:=Int.pow_pos dE;have hX:0<m1*2^(e1-e2).toNat:=Int.mul_pos h1 oM;unfold Sj;by_cases c:e1-e2<=36
 ·rw[if_pos c];generalize m1*2^(e1-e2).toNat=X at *;unfold ZL;by_cases z:FQ s1 X+FQ s2 m2=0
  ·rw[if_pos z,if_pos z,z];have:(s1&&s2)=false:=by
    cases s1<;>cases s2<;>simp only[FQ,if_true,if_false,Bool.false_eq_true]at z<;>first|rfl|omega
   rw[this];exact FA false e2
  ·rw[if_neg z,if_neg z];rfl
 ·rw[if_neg c];have hm8:8388608<=m1:=oM;have hpow:(2:Int)^(e1-e2).toNat=2^(e1-e2-37).toNat*137438953472:=by
   have:(e1-e2).toNat=(e1-e2-37).toNat+37:=oM;rw[this,Int.pow_add];rfl
  have hP2:(1:Int)<=2^(e1-e2-37).toNat:=Int.pow_pos dE;have hbig:137438953472<=(2:Int)^(e1-e2).toNat:=oM;have hXbig:137438953472<=m1*2^(e1-e2).toNat:=by
   have:=Int.mul_le_mul (show(1:Int)<=m1 by omega) hbig dE oM;omega
  have hz1:¬ (FQ s1 (m1*2^(e1-e2).toNat)+FQ s2 m2=0):=by
   generalize m1*2^(e1-e2).toNat=X at *;exact Zdi
  have hz2:¬ (FQ s1 (m1*68719476736)+FQ s2 1=0):=by
   exact Zdi
  have hs1:decide (FQ s1 (m1*2^(e1-e2).toNat)+FQ s2 m2<0)=s1:=by
   generalize m1*2^(e1-e2).toNat=X at *;cases s1<;>cases s2<;>simp only[FQ,if_true,if_false,Bool.false_eq_true]<;>simp<;>omega
  have hs2:decide (FQ s1 (m1*68719476736)+FQ s2 1<0)=s1:=by
   cases s1<;>cases s2<;>simp only[FQ,if_true,if_false,Bool.false_eq_true]<;>simp<;>omega
  unfold ZL;rw[if_neg hz1,if_neg hz2,hs1,hs2,AX,AX];have r1:BR 23 (-149) (FQ s1 (m1*2^(e1-e2).toNat)+FQ s2 m2).natAbs e2=(e1+149).toNat*8388608+m1.toNat:=by
   refine Me m1.toNat 0 _ m2.toNat e1 oM oM oM e2 h5 (e1-e2).toNat oM ?_ ?_
   ·have hcast:((m1.toNat*2^(e1-e2).toNat:Nat):Int)=m1*2^(e1-e2).toNat:=by
     rw[Int.natCast_mul,Int.natCast_pow,Int.toNat_of_nonneg oM];rfl
    generalize m1.toNat*2^(e1-e2).toNat=Y at *;generalize m1*2^(e1-e2).toNat=X at *;exact Zdi
   ·have hcast:((2^(e1-e2).toNat:Nat):Int)=(2:Int)^(e1-e2).toNat:=Int.natCast_pow 2 _;omega
  have r2:BR 23 (-149) (FQ s1 (m1*68719476736)+FQ s2 1).natAbs (e1-36)=(e1+149).toNat*8388608+m1.toNat:=by
   refine Me m1.toNat 0 _ 1 e1 oM oM oM (e1-36) oM 36 oM ?_ dE;rw[show(2:Nat)^36=68719476736 from rfl];exact Zdi
  rw[Cz,Bz,r1,r2];rfl
theorem Ff(a:Int){d:Ieee.Datum}(h:Ieee.single.read a.toNat=d):Cv a=PM ((d.root 25).map Ieee.single.write):=by
 unfold Cv Ieee.Format.sqrt;rw[h];rfl
theorem R1(a:Int)(h0:0<=a)(h1:a<4294967296)(hia:De a=false)(hna:BC a=false)(za:nM a≠0)(hs:AU a=false)(root n:Nat)(e:Int)(he:e%2=0)
 (hn:(n:Int)=nM a*2^nk (nM a)*68719476736/\e=nE a-nk (nM a)-36\/(n:Int)=nM a*2^nk (nM a)*68719476736*2/\e=nE a-nk (nM a)-37) (hr1:root*root<=n) (hr2:n<(root+1)*(root+1)):
 Cv a=(Ieee.single.nearest false (2*root+(if root*root<n then 1 else 0)) (e/2-1):Nat):=by
 obtain⟨fa,sa,ma,ta⟩:=LF a h0 h1 hia hna;obtain⟨-,a1,a2,a3,a4,-⟩:=BD a h0 h1 hia hna;obtain⟨ka,A1,A2⟩:=Eu (nM a) oM a2;obtain⟨r,hr,hnear⟩:=Ho a.toNat fa (by rw[sa];exact hs) oM;have hst:(root*root != n).toNat=if root*root<n then 1 else 0:=by
  by_cases c:root*root=n
  ·rw[if_neg oM];simp[c]
  ·rw[if_pos oM];simp[c]
 obtain⟨x,hx⟩:∃x:Nat,(x:Int)=e/2+149:=⟨(e/2+149).toNat,oM⟩
 have hn59:576460752303423488<=n:=oM;have hroot:16777216<=root:=by
  rcases Nat.lt_or_ge root 16777216 with c|c
  ·exfalso;have:=Nat.mul_self_le_mul_self (show root+1<=16777216 from c);omega
  ·exact c
 have big:23+2<=(2*root+(root*root != n).toNat).log2:=by
  apply(Nat.le_log2 oM).2;omega
 have h2:=GS 23 (-149) root n (e/2-1) dE hr1 hr2 big x oM;have hval:n*(2^x*2^x)=mv a.toNat*2^149:=by
  have cA:nM a*2^nk (nM a)=((mg a.toNat*2^nk (nM a):Nat):Int):=by rw[Int.natCast_mul,DG,ma]
  rw[cA]at hn;obtain⟨z,hz⟩:∃z:Nat,z=149:=⟨_,rfl⟩
  rw[Gl,←hz];rcases hn with⟨hn,hE⟩|⟨hn,hE⟩
  ·have hn':n=mg a.toNat*2^nk (nM a)*2^36:=by
    have:(2:Nat)^36=68719476736:=rfl;omega
   exact Zfe
  ·have hn':n=mg a.toNat*2^nk (nM a)*2^37:=by
    have:(2:Nat)^37=68719476736*2:=rfl;omega
   exact Zfe
 rw[hval,hst]at h2;have C5:=hnear.unique h2;unfold Cv;rw[hr];show((wd false r:Nat):Int)=_;rw[AX,Cz,Bz,GL,←C5]
def rrel(n k root:Nat):Prop:=root*root<=n/\n<(root+2^k)*(root+2^k)/\root+2^k<=4294967296
def QC(k:Nat):Int:=if k=0 then 0 else 2^(k-1)
theorem QE(k:Nat):QC (k+1)=2^k:=by unfold QC;rw[if_neg oM];rfl
theorem QD(k:Nat):(2:Int)^k/2=QC k:=by
 unfold QC;rcases Nat.eq_zero_or_pos k with c|c
 ·subst c;rfl
 ·rw[if_neg oM];obtain⟨j,rfl⟩:∃j,k=j+1:=⟨k-1,oM⟩
  rw[Int.pow_succ,Nat.add_sub_cancel];omega
theorem RZ(a:Int)(h0:0<=a)(h1:a<4294967296)(hia:De a=false)(hna:BC a=false)(za:nM a≠0)(hs:AU a=false)(w:World):
 Calls prog 178 #[.int .i64 a] w fun e w'=>e=.returned (.int .i64 (Cv a))/\Below w.heap.size w w':=by
 obtain⟨ra,a1,a2,a3,a4,a5⟩:=BD a h0 h1 hia hna;obtain⟨ka,A1,A2⟩:=Eu (nM a) oM a2;obtain⟨A,hA⟩:∃A,nM a*2^nk (nM a)=A:=⟨_,rfl⟩
 obtain⟨EA,hEA⟩:∃EA,nE a-(nk (nM a):Int)=EA:=⟨_,rfl⟩
 have hv:=R1 a h0 h1 hia hna za hs;rw[hA,hEA]at hv;rw[hA]at A1 A2;have eb: -172<=EA/\EA<=104:=oM;clear ra a5;have HV:Hid (∀ (root n:Nat) (e:Int),e%2=0->((n:Int)=A*68719476736/\e=EA-36\/(n:Int)=A*68719476736*2/\e=EA-37)->root*root<=n->n<(root+1)*(root+1)->Cv a=(Ieee.single.nearest false (2*root+(if root*root<n then 1 else 0)) (e/2-1):Nat)):=fun root n e p q r s=>hv root n e p q r s;clear hv;generalize hF:Cv a=F at *;clear hF;by_cases c:EA%2=0
 ·skip
  obtain⟨N,hN⟩:∃N:Int,A*68719476736=N:=⟨_,rfl⟩
  obtain⟨e,he⟩:∃e:Int,EA-36=e:=⟨_,rfl⟩
  obtain⟨E2,hE2⟩:∃E2:Int,e/2=E2:=⟨_,rfl⟩
  have hNb:576460752303423488<=N/\N<2305843009213693952:=oM;obtain⟨n,hn⟩:∃n:Nat,(n:Int)=N:=⟨N.toNat,oM⟩
  have hv2:=fun root=>HV.out root n e oM (Or.inl ⟨oM,oM⟩);rw[hE2]at hv2;have htd:e.tdiv 2=E2:=by rw[←hE2,Int.tdiv_eq_ediv];split<;>omega
  have hodd:e.tmod 2=0:=by rw[Int.tmod_eq_emod];split<;>omega
  exact Zaj
 ·skip
  have hodd:(EA-36).tmod 2≠0:=by rw[Int.tmod_eq_emod];split<;>omega
  obtain⟨N,hN⟩:∃N:Int,A*68719476736*2=N:=⟨_,rfl⟩
  obtain⟨e,he⟩:∃e:Int,EA-36-1=e:=⟨_,rfl⟩
  obtain⟨E2,hE2⟩:∃E2:Int,e/2=E2:=⟨_,rfl⟩
  have hNb:576460752303423488<=N/\N<2305843009213693952:=oM;obtain⟨n,hn⟩:∃n:Nat,(n:Int)=N:=⟨N.toNat,oM⟩
  have hv2:=fun root=>HV.out root n e oM (Or.inr ⟨oM,oM⟩);rw[hE2]at hv2;have htd:e.tdiv 2=E2:=by rw[←hE2,Int.tdiv_eq_ediv];split<;>omega
  exact Zaj
theorem RY(a:Int)(h0:0<=a)(h1:a<4294967296)(w:World):
 Calls prog 178 #[.int .i64 a] w fun e w'=>e=.returned (.int .i64 (Cv a))/\Below w.heap.size w w':=by
 cases hna:BC a
 ·cases hia:De a
  ·by_cases za:nM a=0
   ·obtain⟨ra,a1,a2,a3,a4,a5⟩:=BD a h0 h1 hia hna;have hv:Cv a=a:=by
     rw[Ff a ra,za];have e:((Ieee.single.nearest (AU a) 0 (nE a):Nat):Int)=GF (AU a):=FA _ _;show((Ieee.single.nearest (AU a) 0 (nE a):Nat):Int)=a;rw[e];have h2:=LF a h0 h1 hia hna;have h3:=E7 a h0 h1;have h4:rg a.toNat=0:=by
      have:mg a.toNat=0:=oM;unfold mg at this;split at this<;>omega
     rw[h2.2.1,h4]at h3;unfold GF;omega
    rw[hv];clear hv ra a5;go_enter func178,ntmps178;exact SA
   ·cases hs:AU a
    ·exact RZ a h0 h1 hia hna za hs w
    ·obtain⟨ra,a1,a2,a3,a4,a5⟩:=BD a h0 h1 hia hna;have hv:Cv a=2143289344:=by
      rw[Ff a ra,hs];have:(nM a).toNat≠0:=oM;simp only[Ieee.Datum.root,if_neg this,if_true];rfl
     rw[hv];clear hv ra a5;go_enter func178,ntmps178;exact SA
  ·obtain⟨ra,-,a1⟩:=D5 a h0 h1 hia;cases hs:AU a
   ·have hv:Cv a=a:=by
     rw[Ff a ra,hs];have h2:rg a.toNat=2139095040:=by
      rcases Nat.lt_trichotomy (rg a.toNat) 2139095040 with c|c|c
      ·rw[Bc _ c]at ra;cases ra
      ·exact c
      ·rw[C3 _ c]at ra;cases ra
     have h3:=E7 a h0 h1;rw[←Lm a h0 h1,hs,h2]at h3;show((Ieee.single.write (.infinity false):Nat):Int)=a;rw[BU];unfold GF;omega
    rw[hv];clear hv ra;go_enter func178,ntmps178;exact SA
   ·have hv:Cv a=2143289344:=by rw[Ff a ra,hs];rfl
    rw[hv];clear hv ra;go_enter func178,ntmps178;exact SA
 ·have hv:Cv a=2143289344:=by
   obtain⟨s,t,e⟩:=EO a h0 h1 hna;rw[Ff a e];rfl
  rw[hv];clear hv;go_enter func178,ntmps178;exact SA
end Go.Proofs.YtbinohkcolcbfaaGreat
