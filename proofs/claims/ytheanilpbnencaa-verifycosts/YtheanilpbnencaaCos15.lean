import Derived.Test.YtheanilpbnencaaCos14
import Derived.Test.YtheanilpbnencaaCos7
import Derived.Deep.DeepCutAuto
import Derived.Test.YtheanilpbnencaaCos11
import Derived.Test.YtheanilpbnencaaCos9
import Derived.Test.YtheanilpbnencaaCos1
namespace Go.Proofs.Ytheanilpbnencaa
open Go.RowKit Go.Proofs.Try
set_option linter.all false
set_option maxRecDepth 100000
set_option maxHeartbeats 16000000
theorem BP(v0 v1 v2 v3:Value)(c:Cd)(hk:AJ c)(w:World)(hv:Bt w v0 v1 v2 v3 c):
 Calls prog 23 #[.agg #[v0,v1,v2,v3]] w fun e w'=>e=.returned (.tuple #[.int .i64 (Ai c).1,.int .i64 (Ai c).2])/\Below w.heap.size w w':=by
 by_cases h0:Ar c.sign=0
 .by_cases h1:16384<c.regs.length\/32768<c.list.length
  .have e:Ai c=(181,-1):=by unfold Ai B3;simp[h0,h1]
   rw[e];exact BQ v0 v1 v2 v3 c hk w hv 181 (.inr (.inl ⟨h0,h1,rfl⟩))
  .by_cases h2:4096<c.slots.length
   .have e:Ai c=(180,-1):=by unfold Ai B3;simp[h0,h1,h2]
    rw[e];exact BQ v0 v1 v2 v3 c hk w hv 180 (.inr (.inr ⟨h0,fun e=>h1 (.inl e),fun e=>h1 (.inr e),h2,rfl⟩))
   .refine EK v0 v1 v2 v3 c hk w hv h0 oM oM oM _ _ ?_;have hA:B3 c=if(Af c&&AK c)=true then 0 else 160:=by
     unfold B3;rw[if_neg (fun e=>e h0),if_neg h1,if_neg h2]
    unfold Ai;rw[hA];by_cases h3:(Af c&&AK c)=true
    .rw[if_pos h3,if_pos h3,if_neg dE]
    .rw[if_neg h3,if_neg h3,if_pos dE]
 .have e:Ai c=(Ar c.sign,-1):=by unfold Ai B3;simp[h0]
  rw[e];exact BQ v0 v1 v2 v3 c hk w hv _ (.inl ⟨h0,rfl⟩)
theorem Bg(t:Ty)(l:List AX)(p0:Option Addr)(q0:Nat)(w:World)(hl:l.length<=1000000)(hv:AS 3 AQ w (.slice p0 l.length q0) l):
 Calls prog 25 #[.agg #[.int .i64 t.kind,.int .i64 t.par],.slice p0 l.length q0] w fun e w'=>e=.returned (.int .i64 (Bb l t))/\Below w.heap.size w w':=by
 obtain⟨kd,pr⟩:=t;obtain⟨N,hN⟩:=gA (l.length)
 by_cases hk:kd=3
 .have k1:(kd != 3)=false:=by simp[hk]
  by_cases h0:pr<0
  .have k2:(pr<0)=True:=by simp[h0]
   have HV:Hid (Bb l ⟨kd,pr⟩=0):=by show _=_;unfold Bb;rw[if_neg (by simp[hk]),if_neg (by unfold Ae;simp;omega)]
   rw[HV.out,hN];clear hv;exact Lg
  .by_cases h1:(N:Int)<=pr
   .have k2:¬ (pr<0):=h0;have HV:Hid (Bb l ⟨kd,pr⟩=0):=by show _=_;unfold Bb;rw[if_neg (by simp[hk]),if_neg (by unfold Ae;simp;omega)]
    rw[HV.out,hN];clear hv;exact Lg
   .obtain⟨P,rfl⟩:=Int.eq_ofNat_of_zero_le (show 0<=pr by omega);have hPl:P<l.length:=oM;have HV:Hid (Bb l ⟨kd,(P:Int)⟩=l[P].len):=by
     show _=_;unfold Bb;rw[if_neg (by simp[hk]),if_pos (Am.2 ⟨by show(0:Int)<=(P:Int);omega,by show(P:Int)<(l.length:Int);omega⟩),show(⟨kd,(P:Int)⟩:Ty).par.toNat=P from Int.toNat_natCast P,gB hPl];rfl
    rw[HV.out];obtain⟨b,o,rfl,hcl⟩:=hv.at hPl;have y2:=hcl.at 2 (v:=.int .i64 l[P].len) rfl;have lb:b<w.heap.size:=Ac y2;have nb:¬b=w.heap.size:=oM;rw[hN];have i1:¬ ((P:Int)<0):=oM;have i2:¬ ((N:Int)<=(P:Int)):=oM;have i3:(P:Int)<(N:Int):=oM;have i4:(0:Int)<=(P:Int):=oM;clear hv hcl hN h0 h1;exact Lg
 .have k1:(kd != 3)=true:=by simp[hk]
  have HV:Hid (Bb l ⟨kd,pr⟩=1):=by show _=_;unfold Bb;rw[if_pos hk]
  rw[HV.out,hN];clear hv;exact Lg
theorem CT(p0 p1 p2 p3:Option Addr)(q0 q1 q2 q3:Nat)(c:Cd)(hsl:c.sign.length<=1000000)(op d a b cc n bits:Int)(hd:(Aw op=true\/op=29\/op=30\/op=32)->Ae d c.regs.length=true)(ha:(op=31\/op=33\/op=19\/op=20)->Ae a c.regs.length=true)(w:World)(hv:Bt w (.slice p0 c.sign.length q0) (.slice p1 c.regs.length q1) (.slice p2 c.slots.length q2) (.slice p3 c.list.length q3) c):
 Calls prog 24 #[.agg #[.slice p0 c.sign.length q0,.slice p1 c.regs.length q1,.slice p2 c.slots.length q2,.slice p3 c.list.length q3],.agg #[.int .i64 op,.int .i64 d,.int .i64 a,.int .i64 b,.int .i64 cc,.int .i64 n,.int .u32 bits]] w fun e w'=>e=.returned (.int .i64 (B7 c ⟨op,d,a,b,cc,n,bits⟩))/\Below w.heap.size w w':=by
 obtain⟨RL,hRL⟩:∃n,c.regs.length=n:=⟨_,rfl⟩
 rw[hRL]at hv |-;have HRL:=A8 hRL;clear hRL;obtain⟨C,hS_C⟩:∃N,w.heap.size=N:=⟨_,rfl⟩
 obtain⟨W0,hA_C⟩:∃W,w.alloc (.cells #[.slice p0 c.sign.length q0,.slice p1 RL q1,.slice p2 c.slots.length q2,.slice p3 c.list.length q3] 27)=W:=⟨_,rfl⟩
 have r9:W0.rowIs C 27 4 (f4 (.slice p0 c.sign.length q0) (.slice p1 RL q1) (.slice p2 c.slots.length q2) (.slice p3 c.list.length q3)):=Lo;have R_C:=A8 r9;have HBW:Hid (Below C w W0):=Hk hA_C (Nat.le_of_eq hS_C.symm);have HC_C:Hid (C<=C):=gF _;have HCW:=A8 hS_C;clear r9;obtain⟨I,hS_I⟩:∃N,W0.heap.size=N:=⟨_,rfl⟩
 obtain⟨W1,hA_I⟩:∃W,W0.alloc (.cells #[.int .i64 op,.int .i64 d,.int .i64 a,.int .i64 b,.int .i64 cc,.int .i64 n,.int .u32 bits] 53)=W:=⟨_,rfl⟩
 have hC_I:C≠I:=(by have:=R_C.lt;omega)
 have hI_C:=hC_I.symm;have HC_I:Hid (C<=I):=(by show C<=I;have:=R_C.lt;omega)
 have r9:W1.rowIs I 53 7 (g7 (.int .i64 op) (.int .i64 d) (.int .i64 a) (.int .i64 b) (.int .i64 cc) (.int .i64 n) (.int .u32 bits)):=(by rw[<-hA_I,<-hS_I];exact Kg W0 _ _ _ _ _ _ _ _)
 have R_I:=A8 r9
 replace HBW:=A8 (HBW.trans (Hk hA_I (Nat.le_of_lt R_C.lt)))
 replace R_C:=A8 (JU R_C.out hA_I)
 clear r9;have HCV:Hid (C<=W1.heap.size):=Nat.le_of_lt R_C.lt;have KE:Hid (∀v,Calls prog 38 #[.int .i64 op] v fun e w'=>e=.returned (.bool (Aw op))/\w'=v):=fun v=>E7 op v;obtain⟨EP,hEP⟩:∃b,Aw op=b:=⟨_,rfl⟩
 rw[hEP]at KE hd;obtain⟨cC0,cC1,cC2,cC3⟩:=c4 R_C.out;obtain⟨cI0,cI1,cI2,cI3,cI4,cI5,cI6⟩:=c7 R_I.out;by_cases h16:op=16
 ·--{1
  have q16:(op==16)=true:=by simp[h16]
  have HV:Hid (B7 c ⟨op,d,a,b,cc,n,bits⟩=62):=by show _=_;unfold B7;rw[if_pos h16]
  have HB:Hid (Below w.heap.size w W1):=by show Below _ _ _;rw[HCW.out];exact HBW.out
  rw[HV.out];clear hd ha hEP hv h16;exact Me
 .have q16:(op==16)=false:=by simp[h16]
  by_cases hE:EP=true
  ·--{2
   have hE2:=hE;have h5:EP=true\/op=29\/op=30\/op=32:=.inl hE;have h6:(Aw op=true\/op=29\/op=30\/op=32):=by rw[hEP];exact h5
   rw[hE]at KE;have hin:=hd h5;obtain⟨R,rfl⟩:∃R:Nat,d=(R:Int):=⟨d.toNat,by have:=Am.1 hin;omega⟩
   have hR:R<c.regs.length:=by have:=Am.1 hin;omega
   have HV:Hid (B7 c ⟨op,(R:Int),a,b,cc,n,bits⟩=Bb c.sign c.regs[R]):=by
    show _=_;unfold B7;rw[if_neg h16,if_pos h6];exact F2
   rw[HV.out];obtain⟨bb,oo,hpp,hcl⟩:=hv.regs.at hR;have t0:w.cell? ⟨bb,oo+R*2,none⟩=some (.int .i64 c.regs[R].kind):=hcl.at 0 (v:=.int .i64 c.regs[R].kind) rfl;have t1:=hcl.at 1 (v:=.int .i64 c.regs[R].par) rfl;have KW:=A8 (fun(v:World) (h:Below w.heap.size w v)=>Bg c.regs[R] c.sign p0 q0 v oM (hv.sign.below h));have hbW:Below w.heap.size w W1:=by rw[HCW.out];exact HBW.out
   have KWW:=A8 (KW.out W1.drew hbW.drew);have t0:=kc hbW t0;have t1:=kc hbW t1;obtain⟨TY,hTY⟩:∃t,c.regs[R]=t:=⟨_,rfl⟩
   rw[hTY]at t0 t1 KWW;rw[hTY];have i1:(0:Int)<=(R:Int):=oM;have i2:(R:Int)<(RL:Int):=by have:=HRL.out;omega
   have i3:R<RL:=by have:=HRL.out;omega
   have HBWW:=A8 hbW.drew;subst hpp;clear hin hcl hv KW hTY HV hbW hd ha hEP h5 h6 h16 hE2 hE;go_enter func24,ntmps24;go_upto_region 7 with(go_at_call 38;(with_reducible refine(KE.out _).mono ?_);rintro r9 w8 ⟨rfl,hw8⟩;have hw8:=hw8.symm;subst hw8)
   try rw[hA_C]
   try rw[hA_I]
   refine rG (fun v=>v.cell? ⟨C,0,none⟩=some (.slice p0 c.sign.length q0)/\v.cell? ⟨C,1,none⟩=some (.slice (some ⟨bb,oo,none⟩) RL q1)/\v.cell? ⟨I,1,none⟩=some (.int .i64 (R:Int))/\v.cell? ⟨bb,oo+R*2,none⟩=some (.int .i64 TY.kind)/\v.cell? ⟨bb,oo+R*2+1,none⟩=some (.int .i64 TY.par)) fun hJ=>?_;exact JI
  .have hE2:EP=false:=by simpa using hE
   rw[hE2]at KE;by_cases h29:op=29
   ·--{3
    have q29:(op==29)=true:=by simp[h29]
    have h5:EP=true\/op=29\/op=30\/op=32:=.inr (.inl h29);have h6:(Aw op=true\/op=29\/op=30\/op=32):=by rw[hEP];exact h5
    have hin:=hd h5;obtain⟨R,rfl⟩:∃R:Nat,d=(R:Int):=⟨d.toNat,by have:=Am.1 hin;omega⟩
    have hR:R<c.regs.length:=by have:=Am.1 hin;omega
    have HV:Hid (B7 c ⟨op,(R:Int),a,b,cc,n,bits⟩=Bb c.sign c.regs[R]):=by
     show _=_;unfold B7;rw[if_neg h16,if_pos h6];exact F2
    rw[HV.out];obtain⟨bb,oo,hpp,hcl⟩:=hv.regs.at hR;have t0:w.cell? ⟨bb,oo+R*2,none⟩=some (.int .i64 c.regs[R].kind):=hcl.at 0 (v:=.int .i64 c.regs[R].kind) rfl;have t1:=hcl.at 1 (v:=.int .i64 c.regs[R].par) rfl;have KW:=A8 (fun(v:World) (h:Below w.heap.size w v)=>Bg c.regs[R] c.sign p0 q0 v oM (hv.sign.below h));have hbW:Below w.heap.size w W1:=by rw[HCW.out];exact HBW.out
    have KWW:=A8 (KW.out W1.drew hbW.drew);have t0:=kc hbW t0;have t1:=kc hbW t1;obtain⟨TY,hTY⟩:∃t,c.regs[R]=t:=⟨_,rfl⟩
    rw[hTY]at t0 t1 KWW;rw[hTY];have i1:(0:Int)<=(R:Int):=oM;have i2:(R:Int)<(RL:Int):=by have:=HRL.out;omega
    have i3:R<RL:=by have:=HRL.out;omega
    have HBWW:=A8 hbW.drew;subst hpp;clear hin hcl hv KW hTY HV hbW hd ha hEP h5 h6 h16 hE2 hE h29;go_enter func24,ntmps24;go_upto_region 7 with(go_at_call 38;(with_reducible refine(KE.out _).mono ?_);rintro r9 w8 ⟨rfl,hw8⟩;have hw8:=hw8.symm;subst hw8)
    try rw[hA_C]
    try rw[hA_I]
    refine rG (fun v=>v.cell? ⟨C,0,none⟩=some (.slice p0 c.sign.length q0)/\v.cell? ⟨C,1,none⟩=some (.slice (some ⟨bb,oo,none⟩) RL q1)/\v.cell? ⟨I,1,none⟩=some (.int .i64 (R:Int))/\v.cell? ⟨bb,oo+R*2,none⟩=some (.int .i64 TY.kind)/\v.cell? ⟨bb,oo+R*2+1,none⟩=some (.int .i64 TY.par)) fun hJ=>?_;exact JI
   .have q29:(op==29)=false:=by simp[h29]
    by_cases h30:op=30
    ·--{4
     have q30:(op==30)=true:=by simp[h30]
     have h5:EP=true\/op=29\/op=30\/op=32:=.inr (.inr (.inl h30));have h6:(Aw op=true\/op=29\/op=30\/op=32):=by rw[hEP];exact h5
     have hin:=hd h5;obtain⟨R,rfl⟩:∃R:Nat,d=(R:Int):=⟨d.toNat,by have:=Am.1 hin;omega⟩
     have hR:R<c.regs.length:=by have:=Am.1 hin;omega
     have HV:Hid (B7 c ⟨op,(R:Int),a,b,cc,n,bits⟩=Bb c.sign c.regs[R]):=by
      show _=_;unfold B7;rw[if_neg h16,if_pos h6];exact F2
     rw[HV.out];obtain⟨bb,oo,hpp,hcl⟩:=hv.regs.at hR;have t0:w.cell? ⟨bb,oo+R*2,none⟩=some (.int .i64 c.regs[R].kind):=hcl.at 0 (v:=.int .i64 c.regs[R].kind) rfl;have t1:=hcl.at 1 (v:=.int .i64 c.regs[R].par) rfl;have KW:=A8 (fun(v:World) (h:Below w.heap.size w v)=>Bg c.regs[R] c.sign p0 q0 v oM (hv.sign.below h));have hbW:Below w.heap.size w W1:=by rw[HCW.out];exact HBW.out
     have KWW:=A8 (KW.out W1.drew hbW.drew);have t0:=kc hbW t0;have t1:=kc hbW t1;obtain⟨TY,hTY⟩:∃t,c.regs[R]=t:=⟨_,rfl⟩
     rw[hTY]at t0 t1 KWW;rw[hTY];have i1:(0:Int)<=(R:Int):=oM;have i2:(R:Int)<(RL:Int):=by have:=HRL.out;omega
     have i3:R<RL:=by have:=HRL.out;omega
     have HBWW:=A8 hbW.drew;subst hpp;clear hin hcl hv KW hTY HV hbW hd ha hEP h5 h6 h16 hE2 hE h29 h30;go_enter func24,ntmps24;go_upto_region 7 with(go_at_call 38;(with_reducible refine(KE.out _).mono ?_);rintro r9 w8 ⟨rfl,hw8⟩;have hw8:=hw8.symm;subst hw8)
     try rw[hA_C]
     try rw[hA_I]
     refine rG (fun v=>v.cell? ⟨C,0,none⟩=some (.slice p0 c.sign.length q0)/\v.cell? ⟨C,1,none⟩=some (.slice (some ⟨bb,oo,none⟩) RL q1)/\v.cell? ⟨I,1,none⟩=some (.int .i64 (R:Int))/\v.cell? ⟨bb,oo+R*2,none⟩=some (.int .i64 TY.kind)/\v.cell? ⟨bb,oo+R*2+1,none⟩=some (.int .i64 TY.par)) fun hJ=>?_;exact JI
    .have q30:(op==30)=false:=by simp[h30]
     by_cases h32:op=32
     ·--{5
      have q32:(op==32)=true:=by simp[h32]
      have h5:EP=true\/op=29\/op=30\/op=32:=.inr (.inr (.inr h32));have h6:(Aw op=true\/op=29\/op=30\/op=32):=by rw[hEP];exact h5
      have hin:=hd h5;obtain⟨R,rfl⟩:∃R:Nat,d=(R:Int):=⟨d.toNat,by have:=Am.1 hin;omega⟩
      have hR:R<c.regs.length:=by have:=Am.1 hin;omega
      have HV:Hid (B7 c ⟨op,(R:Int),a,b,cc,n,bits⟩=Bb c.sign c.regs[R]):=by
       show _=_;unfold B7;rw[if_neg h16,if_pos h6];exact F2
      rw[HV.out];obtain⟨bb,oo,hpp,hcl⟩:=hv.regs.at hR;have t0:w.cell? ⟨bb,oo+R*2,none⟩=some (.int .i64 c.regs[R].kind):=hcl.at 0 (v:=.int .i64 c.regs[R].kind) rfl;have t1:=hcl.at 1 (v:=.int .i64 c.regs[R].par) rfl;have KW:=A8 (fun(v:World) (h:Below w.heap.size w v)=>Bg c.regs[R] c.sign p0 q0 v oM (hv.sign.below h));have hbW:Below w.heap.size w W1:=by rw[HCW.out];exact HBW.out
      have KWW:=A8 (KW.out W1.drew hbW.drew);have t0:=kc hbW t0;have t1:=kc hbW t1;obtain⟨TY,hTY⟩:∃t,c.regs[R]=t:=⟨_,rfl⟩
      rw[hTY]at t0 t1 KWW;rw[hTY];have i1:(0:Int)<=(R:Int):=oM;have i2:(R:Int)<(RL:Int):=by have:=HRL.out;omega
      have i3:R<RL:=by have:=HRL.out;omega
      have HBWW:=A8 hbW.drew;subst hpp;clear hin hcl hv KW hTY HV hbW hd ha hEP h5 h6 h16 hE2 hE h29 h30 h32;go_enter func24,ntmps24;go_upto_region 7 with(go_at_call 38;(with_reducible refine(KE.out _).mono ?_);rintro r9 w8 ⟨rfl,hw8⟩;have hw8:=hw8.symm;subst hw8)
      try rw[hA_C]
      try rw[hA_I]
      refine rG (fun v=>v.cell? ⟨C,0,none⟩=some (.slice p0 c.sign.length q0)/\v.cell? ⟨C,1,none⟩=some (.slice (some ⟨bb,oo,none⟩) RL q1)/\v.cell? ⟨I,1,none⟩=some (.int .i64 (R:Int))/\v.cell? ⟨bb,oo+R*2,none⟩=some (.int .i64 TY.kind)/\v.cell? ⟨bb,oo+R*2+1,none⟩=some (.int .i64 TY.par)) fun hJ=>?_;exact JI
     .have q32:(op==32)=false:=by simp[h32]
      by_cases h31:op=31
      ·--{6
       have q31:(op==31)=true:=by simp[h31]
       have h5:op=31\/op=33\/op=19\/op=20:=.inl h31;have h6:¬ (Aw op=true\/op=29\/op=30\/op=32):=by rw[hEP,hE2];simp[h29,h30,h32]
       have hin:=ha h5;obtain⟨R,rfl⟩:∃R:Nat,a=(R:Int):=⟨a.toNat,by have:=Am.1 hin;omega⟩
       have hR:R<c.regs.length:=by have:=Am.1 hin;omega
       have HV:Hid (B7 c ⟨op,d,(R:Int),b,cc,n,bits⟩=Bb c.sign c.regs[R]):=by
        show _=_;unfold B7;rw[if_neg h16,if_neg h6,if_pos h5];exact F2
       rw[HV.out];obtain⟨bb,oo,hpp,hcl⟩:=hv.regs.at hR;have t0:w.cell? ⟨bb,oo+R*2,none⟩=some (.int .i64 c.regs[R].kind):=hcl.at 0 (v:=.int .i64 c.regs[R].kind) rfl;have t1:=hcl.at 1 (v:=.int .i64 c.regs[R].par) rfl;have KW:=A8 (fun(v:World) (h:Below w.heap.size w v)=>Bg c.regs[R] c.sign p0 q0 v oM (hv.sign.below h));have hbW:Below w.heap.size w W1:=by rw[HCW.out];exact HBW.out
       have KWW:=A8 (KW.out W1.drew hbW.drew);have t0:=kc hbW t0;have t1:=kc hbW t1;obtain⟨TY,hTY⟩:∃t,c.regs[R]=t:=⟨_,rfl⟩
       rw[hTY]at t0 t1 KWW;rw[hTY];have i1:(0:Int)<=(R:Int):=oM;have i2:(R:Int)<(RL:Int):=by have:=HRL.out;omega
       have i3:R<RL:=by have:=HRL.out;omega
       have HBWW:=A8 hbW.drew;subst hpp;clear hin hcl hv KW hTY HV hbW hd ha hEP h5 h6 h16 hE2 hE h29 h30 h32 h31;go_enter func24,ntmps24;go_upto_region 12 with(go_at_call 38;(with_reducible refine(KE.out _).mono ?_);rintro r9 w8 ⟨rfl,hw8⟩;have hw8:=hw8.symm;subst hw8)
       try rw[hA_C]
       try rw[hA_I]
       refine rG (fun v=>v.cell? ⟨C,0,none⟩=some (.slice p0 c.sign.length q0)/\v.cell? ⟨C,1,none⟩=some (.slice (some ⟨bb,oo,none⟩) RL q1)/\v.cell? ⟨I,2,none⟩=some (.int .i64 (R:Int))/\v.cell? ⟨bb,oo+R*2,none⟩=some (.int .i64 TY.kind)/\v.cell? ⟨bb,oo+R*2+1,none⟩=some (.int .i64 TY.par)) fun hJ=>?_;exact JI
      .have q31:(op==31)=false:=by simp[h31]
       by_cases h33:op=33
       ·--{7
        have q33:(op==33)=true:=by simp[h33]
        have h5:op=31\/op=33\/op=19\/op=20:=.inr (.inl h33);have h6:¬ (Aw op=true\/op=29\/op=30\/op=32):=by rw[hEP,hE2];simp[h29,h30,h32]
        have hin:=ha h5;obtain⟨R,rfl⟩:∃R:Nat,a=(R:Int):=⟨a.toNat,by have:=Am.1 hin;omega⟩
        have hR:R<c.regs.length:=by have:=Am.1 hin;omega
        have HV:Hid (B7 c ⟨op,d,(R:Int),b,cc,n,bits⟩=Bb c.sign c.regs[R]):=by
         show _=_;unfold B7;rw[if_neg h16,if_neg h6,if_pos h5];exact F2
        rw[HV.out];obtain⟨bb,oo,hpp,hcl⟩:=hv.regs.at hR;have t0:w.cell? ⟨bb,oo+R*2,none⟩=some (.int .i64 c.regs[R].kind):=hcl.at 0 (v:=.int .i64 c.regs[R].kind) rfl;have t1:=hcl.at 1 (v:=.int .i64 c.regs[R].par) rfl;have KW:=A8 (fun(v:World) (h:Below w.heap.size w v)=>Bg c.regs[R] c.sign p0 q0 v oM (hv.sign.below h));have hbW:Below w.heap.size w W1:=by rw[HCW.out];exact HBW.out
        have KWW:=A8 (KW.out W1.drew hbW.drew);have t0:=kc hbW t0;have t1:=kc hbW t1;obtain⟨TY,hTY⟩:∃t,c.regs[R]=t:=⟨_,rfl⟩
        rw[hTY]at t0 t1 KWW;rw[hTY];have i1:(0:Int)<=(R:Int):=oM;have i2:(R:Int)<(RL:Int):=by have:=HRL.out;omega
        have i3:R<RL:=by have:=HRL.out;omega
        have HBWW:=A8 hbW.drew;subst hpp;clear hin hcl hv KW hTY HV hbW hd ha hEP h5 h6 h16 hE2 hE h29 h30 h32 h31 h33;go_enter func24,ntmps24;go_upto_region 12 with(go_at_call 38;(with_reducible refine(KE.out _).mono ?_);rintro r9 w8 ⟨rfl,hw8⟩;have hw8:=hw8.symm;subst hw8)
        try rw[hA_C]
        try rw[hA_I]
        refine rG (fun v=>v.cell? ⟨C,0,none⟩=some (.slice p0 c.sign.length q0)/\v.cell? ⟨C,1,none⟩=some (.slice (some ⟨bb,oo,none⟩) RL q1)/\v.cell? ⟨I,2,none⟩=some (.int .i64 (R:Int))/\v.cell? ⟨bb,oo+R*2,none⟩=some (.int .i64 TY.kind)/\v.cell? ⟨bb,oo+R*2+1,none⟩=some (.int .i64 TY.par)) fun hJ=>?_;exact JI
       .have q33:(op==33)=false:=by simp[h33]
        by_cases h19:op=19
        ·--{8
         have q19:(op==19)=true:=by simp[h19]
         have h5:op=31\/op=33\/op=19\/op=20:=.inr (.inr (.inl h19));have h6:¬ (Aw op=true\/op=29\/op=30\/op=32):=by rw[hEP,hE2];simp[h29,h30,h32]
         have hin:=ha h5;obtain⟨R,rfl⟩:∃R:Nat,a=(R:Int):=⟨a.toNat,by have:=Am.1 hin;omega⟩
         have hR:R<c.regs.length:=by have:=Am.1 hin;omega
         have HV:Hid (B7 c ⟨op,d,(R:Int),b,cc,n,bits⟩=Bb c.sign c.regs[R]):=by
          show _=_;unfold B7;rw[if_neg h16,if_neg h6,if_pos h5];exact F2
         rw[HV.out];obtain⟨bb,oo,hpp,hcl⟩:=hv.regs.at hR;have t0:w.cell? ⟨bb,oo+R*2,none⟩=some (.int .i64 c.regs[R].kind):=hcl.at 0 (v:=.int .i64 c.regs[R].kind) rfl;have t1:=hcl.at 1 (v:=.int .i64 c.regs[R].par) rfl;have KW:=A8 (fun(v:World) (h:Below w.heap.size w v)=>Bg c.regs[R] c.sign p0 q0 v oM (hv.sign.below h));have hbW:Below w.heap.size w W1:=by rw[HCW.out];exact HBW.out
         have KWW:=A8 (KW.out W1.drew hbW.drew);have t0:=kc hbW t0;have t1:=kc hbW t1;obtain⟨TY,hTY⟩:∃t,c.regs[R]=t:=⟨_,rfl⟩
         rw[hTY]at t0 t1 KWW;rw[hTY];have i1:(0:Int)<=(R:Int):=oM;have i2:(R:Int)<(RL:Int):=by have:=HRL.out;omega
         have i3:R<RL:=by have:=HRL.out;omega
         have HBWW:=A8 hbW.drew;subst hpp;clear hin hcl hv KW hTY HV hbW hd ha hEP h5 h6 h16 hE2 hE h29 h30 h32 h31 h33 h19;go_enter func24,ntmps24;go_upto_region 12 with(go_at_call 38;(with_reducible refine(KE.out _).mono ?_);rintro r9 w8 ⟨rfl,hw8⟩;have hw8:=hw8.symm;subst hw8)
         try rw[hA_C]
         try rw[hA_I]
         refine rG (fun v=>v.cell? ⟨C,0,none⟩=some (.slice p0 c.sign.length q0)/\v.cell? ⟨C,1,none⟩=some (.slice (some ⟨bb,oo,none⟩) RL q1)/\v.cell? ⟨I,2,none⟩=some (.int .i64 (R:Int))/\v.cell? ⟨bb,oo+R*2,none⟩=some (.int .i64 TY.kind)/\v.cell? ⟨bb,oo+R*2+1,none⟩=some (.int .i64 TY.par)) fun hJ=>?_;exact JI
        .have q19:(op==19)=false:=by simp[h19]
         by_cases h20:op=20
         ·--{9
          have q20:(op==20)=true:=by simp[h20]
          have h5:op=31\/op=33\/op=19\/op=20:=.inr (.inr (.inr h20));have h6:¬ (Aw op=true\/op=29\/op=30\/op=32):=by rw[hEP,hE2];simp[h29,h30,h32]
          have hin:=ha h5;obtain⟨R,rfl⟩:∃R:Nat,a=(R:Int):=⟨a.toNat,by have:=Am.1 hin;omega⟩
          have hR:R<c.regs.length:=by have:=Am.1 hin;omega
          have HV:Hid (B7 c ⟨op,d,(R:Int),b,cc,n,bits⟩=Bb c.sign c.regs[R]):=by
           show _=_;unfold B7;rw[if_neg h16,if_neg h6,if_pos h5];exact F2
          rw[HV.out];obtain⟨bb,oo,hpp,hcl⟩:=hv.regs.at hR;have t0:w.cell? ⟨bb,oo+R*2,none⟩=some (.int .i64 c.regs[R].kind):=hcl.at 0 (v:=.int .i64 c.regs[R].kind) rfl;have t1:=hcl.at 1 (v:=.int .i64 c.regs[R].par) rfl;have KW:=A8 (fun(v:World) (h:Below w.heap.size w v)=>Bg c.regs[R] c.sign p0 q0 v oM (hv.sign.below h));have hbW:Below w.heap.size w W1:=by rw[HCW.out];exact HBW.out
          have KWW:=A8 (KW.out W1.drew hbW.drew);have t0:=kc hbW t0;have t1:=kc hbW t1;obtain⟨TY,hTY⟩:∃t,c.regs[R]=t:=⟨_,rfl⟩
          rw[hTY]at t0 t1 KWW;rw[hTY];have i1:(0:Int)<=(R:Int):=oM;have i2:(R:Int)<(RL:Int):=by have:=HRL.out;omega
          have i3:R<RL:=by have:=HRL.out;omega
          have HBWW:=A8 hbW.drew;subst hpp;clear hin hcl hv KW hTY HV hbW hd ha hEP h5 h6 h16 hE2 hE h29 h30 h32 h31 h33 h19 h20;go_enter func24,ntmps24;go_upto_region 12 with(go_at_call 38;(with_reducible refine(KE.out _).mono ?_);rintro r9 w8 ⟨rfl,hw8⟩;have hw8:=hw8.symm;subst hw8)
          try rw[hA_C]
          try rw[hA_I]
          refine rG (fun v=>v.cell? ⟨C,0,none⟩=some (.slice p0 c.sign.length q0)/\v.cell? ⟨C,1,none⟩=some (.slice (some ⟨bb,oo,none⟩) RL q1)/\v.cell? ⟨I,2,none⟩=some (.int .i64 (R:Int))/\v.cell? ⟨bb,oo+R*2,none⟩=some (.int .i64 TY.kind)/\v.cell? ⟨bb,oo+R*2+1,none⟩=some (.int .i64 TY.par)) fun hJ=>?_;exact JI
         .have q20:(op==20)=false:=by simp[h20]
          have h6:¬ (Aw op=true\/op=29\/op=30\/op=32):=by rw[hEP,hE2];simp[h29,h30,h32]
          have h7:¬ (op=31\/op=33\/op=19\/op=20):=by simp[h31,h33,h19,h20]
          have HV:Hid (B7 c ⟨op,d,a,b,cc,n,bits⟩=1):=by show _=_;unfold B7;rw[if_neg h16,if_neg h6,if_neg h7]
          have HB:Hid (Below w.heap.size w W1):=by show Below _ _ _;rw[HCW.out];exact HBW.out
          rw[HV.out];clear hd ha hEP hv h6 h7 h16 hE2 hE h29 h30 h32 h31 h33 h19 h20;exact Me
theorem Gz(c:Cd):∀ (l:List Ay) (s:Wk),BU c s l=true->∀i∈l,∃s',Tk c s' i
 |[],s,_,i,hi=>by cases hi
 |j::l,s,h,i,hi=>by
  simp only[BU,Bool.and_eq_true]at h;rcases List.mem_cons.1 hi with e|e
  .rw[e];exact⟨s,IT.1 h.1⟩
  .exact Gz c l _ h.2 i e
theorem Gy{c:Cd}(hc:(Ai c).1=0):∀i∈c.list,((Aw i.op=true\/i.op=29\/i.op=30\/i.op=32)->Ae i.d c.regs.length=true)/\((i.op=31\/i.op=33\/i.op=19\/i.op=20)->Ae i.a c.regs.length=true):=fun i hi=>by
 obtain⟨h1,h2,h3⟩:=AY.1 hc;obtain⟨s,h⟩:=Gz c c.list _ h2 i hi;obtain⟨N,hN⟩:∃N:Nat,i.op=(N:Int):=⟨i.op.toNat,by have:=h.known;omega⟩
 have hN2:N<38:=by have:=h.known;omega
 exact⟨fun q=>Eh h.d (by rw[hN]at q |-;exact Iv N hN2 q),fun q=>Eh h.a (by rw[hN]at q |-;exact Iu N hN2 q)⟩
theorem Ci{c:Cd}(hc:(Ai c).1=0):c.sign.length<=1000000/\c.list.length<=32768:=by
 have hA:=Cb.1 (AY.1 hc).1;refine⟨?_,hA.list⟩;have h:=hA.sign;unfold Ar at h;split at h
 .exact absurd h dE
 .omega
theorem EA{c:Cd}{l:List Ay}{k:Nat}(h:k<l.length):B0 c (l.take (k+1))=B0 c (l.take k)+B7 c l[k]:=by
 rw[List.take_succ_eq_append_getElem h,E1];simp[B0]
theorem Gx{c:Cd}(hc:(Ai c).1=0)(k:Nat):0<=B0 c (c.list.take k)/\B0 c (c.list.take k)<=4096*(k:Int):=by
 have h:=EB (c:=c) (c.list.take k) (fun i hi=>DN hc i (List.mem_of_mem_take hi));have hl:(c.list.take k).length<=k:=by rw[List.length_take];omega
 omega
theorem EL(p0 p1 p2 p3:Option Addr)(q0 q1 q2 q3:Nat)(c:Cd)(hk:AJ c)(w:World)(hv:Bt w (.slice p0 c.sign.length q0) (.slice p1 c.regs.length q1) (.slice p2 c.slots.length q2) (.slice p3 c.list.length q3) c):
 Calls prog 11 #[.agg #[.slice p0 c.sign.length q0,.slice p1 c.regs.length q1,.slice p2 c.slots.length q2,.slice p3 c.list.length q3]] w fun e w'=>e=.returned (.tuple #[.int .i64 (if(Ai c).1=0 then BK c else 0),.int .i64 (Ai c).1])/\Below w.heap.size w w':=by
 obtain⟨CV,hCV⟩:∃v,(if(Ai c).1=0 then BK c else 0)=v:=⟨_,rfl⟩
 rw[hCV];have HCVV:=A8 hCV;clear hCV;obtain⟨E,hE⟩:∃e,(Ai c).1=e:=⟨_,rfl⟩
 rw[hE];have HE:=A8 hE;clear hE;obtain⟨L,hL⟩:∃n,c.list.length=n:=⟨_,rfl⟩
 rw[hL]at hv |-;have HL:=A8 hL;clear hL;obtain⟨C,hS_C⟩:∃N,w.heap.size=N:=⟨_,rfl⟩
 obtain⟨W0,hA_C⟩:∃W,w.alloc (.cells #[.slice p0 c.sign.length q0,.slice p1 c.regs.length q1,.slice p2 c.slots.length q2,.slice p3 L q3] 27)=W:=⟨_,rfl⟩
 have r9:W0.rowIs C 27 4 (f4 (.slice p0 c.sign.length q0) (.slice p1 c.regs.length q1) (.slice p2 c.slots.length q2) (.slice p3 L q3)):=Lo;have R_C:=A8 r9;have HBW:Hid (Below C w W0):=Hk hA_C (Nat.le_of_eq hS_C.symm);have HC_C:Hid (C<=C):=gF _;have HCW:=A8 hS_C;clear r9;have HCV:Hid (C<=W0.heap.size):=Nat.le_of_lt R_C.lt;have hbW:Below w.heap.size w W0:=by rw[HCW.out];exact HBW.out
 have HV:=A8 hv;have hKC:=BP _ _ _ _ c hk W0 (hv.below hbW);rw[HE.out]at hKC;have KC:=A8 hKC;have HK:=A8 hk;clear hv hk hbW hKC;obtain⟨cC0,cC1,cC2,cC3⟩:=c4 R_C.out;go_enter func11,ntmps11;go_upto_region 1 with fail;try rw[hS_C]
 try rw[hA_C]
 clear hS_C hA_C;go_upto_region 2 with(go_at_call 23;(with_reducible refine(KC.out).mono ?_);rintro r9 w4 ⟨rfl,hb⟩;replace R_C:=A8 (R_C.out.of_block (hb.block _ R_C.out.lt));replace HBW:=A8 (HBW.out.trans (hb.mono HCV.out));clear hb)
 clear cC0 cC1 cC2 cC3;by_cases h0:E=0
 .subst h0;have HSL:=A8 (Ci HE.out).1;go_upto_block 0 with fail;go_wp2_with fail;have HJ0:=A8 (And.intro R_C HBW)
  go_loopw [6,7] (fun nv iv wx=>∃k:Nat,k<=L/\iv=.int .i64 (k:Int)/\nv=.int .i64 (B0 c (c.list.take k))/\Hid (wx.rowIs C 27 4 (f4 (.slice p0 c.sign.length q0) (.slice p1 c.regs.length q1) (.slice p2 c.slots.length q2) (.slice p3 L q3)))/\Hid (Below C w wx)) (fun _ iv _=>L-(intOf iv).toNat)
  case atStart=>exact⟨0,gI _,rfl,rfl,HJ0.1,HJ0.2⟩
  case round=>
   clear R_C HBW HJ0;obtain⟨k,hkk,rfl,rfl,R_C,HBW⟩:=hrel;obtain⟨cC0,cC1,cC2,cC3⟩:=c4 R_C.out;by_cases hlt:k<L
   ·--{1
    have e1:(k:Int)<(L:Int):=oM;have hkl:k<c.list.length:=by rw[HL.out];exact hlt
    have HS1:=A8 (EA (c:=c) hkl);obtain⟨hb1,hb2⟩:=DN HE.out c.list[k] (gD hkl);obtain⟨hs1,hs2⟩:=Gx HE.out k;obtain⟨hd,ha⟩:=Gy HE.out c.list[k] (gD hkl);have hbW:Below w.heap.size w wr.drew:=by rw[HCW.out];exact HBW.drew
    obtain⟨bb,oo,hpp,hcl⟩:=HV.list.at hkl;have t0:wr.drew.cell? ⟨bb,oo+k*7,none⟩=some (.int .i64 c.list[k].op):=kc hbW (hcl.at 0 (v:=.int .i64 c.list[k].op) rfl);have t1:wr.drew.cell? ⟨bb,oo+k*7+1,none⟩=some (.int .i64 c.list[k].d):=kc hbW (hcl.at 1 (v:=.int .i64 c.list[k].d) rfl);have t2:wr.drew.cell? ⟨bb,oo+k*7+2,none⟩=some (.int .i64 c.list[k].a):=kc hbW (hcl.at 2 (v:=.int .i64 c.list[k].a) rfl);have t3:wr.drew.cell? ⟨bb,oo+k*7+3,none⟩=some (.int .i64 c.list[k].b):=kc hbW (hcl.at 3 (v:=.int .i64 c.list[k].b) rfl);have t4:wr.drew.cell? ⟨bb,oo+k*7+4,none⟩=some (.int .i64 c.list[k].c):=kc hbW (hcl.at 4 (v:=.int .i64 c.list[k].c) rfl);have t5:wr.drew.cell? ⟨bb,oo+k*7+5,none⟩=some (.int .i64 c.list[k].n):=kc hbW (hcl.at 5 (v:=.int .i64 c.list[k].n) rfl);have t6:wr.drew.cell? ⟨bb,oo+k*7+6,none⟩=some (.int .u32 c.list[k].bits):=kc hbW (hcl.at 6 (v:=.int .u32 c.list[k].bits) rfl);have HVW:=HV.below hbW;obtain⟨x,hx⟩:=gA (c.list[k])
    rw[hx]at HS1 hb1 hb2 hd ha t0 t1 t2 t3 t4 t5 t6;have KW:=A8 (CT p0 p1 p2 p3 q0 q1 q2 q3 c HSL.out x.op x.d x.a x.b x.c x.n x.bits hd ha wr.drew (by rw[HL.out];exact HVW));rw[HL.out]at KW;obtain⟨WG,hWG⟩:∃g,B7 c x=g:=⟨_,rfl⟩
    have hWG2:B7 c ⟨x.op,x.d,x.a,x.b,x.c,x.n,x.bits⟩=WG:=hWG;rw[hWG2]at KW;rw[hWG]at HS1 hb1 hb2;obtain⟨SM,hSM⟩:∃g,B0 c (c.list.take k)=g:=⟨_,rfl⟩
    rw[hSM]at HS1 hs1 hs2;rw[hSM];have hkL:L<=32768:=by have:=(Ci HE.out).2;have:=HL.out;omega
    have wS:IntKind.i64.wrap (SM+WG)=SM+WG:=by rw[IntKind.wrap_i64];omega
    have wk:IntKind.i64.wrap ((k:Int)+1)=((k+1:Nat):Int):=by rw[IntKind.wrap_i64];omega
    have i1:(0:Int)<=(k:Int):=oM;have HBWW:=A8 (HBW.drew);have hk1:k+1<=L:=hlt;subst hpp;clear hlt hkl hb1 hb2 hs1 hs2 hd ha hbW hcl HVW hx hWG hWG2 hSM hkL;go_wp2_with fail;refine rG (fun v=>v.cell? ⟨C,0,none⟩=some (.slice p0 c.sign.length q0)/\v.cell? ⟨C,1,none⟩=some (.slice p1 c.regs.length q1)/\v.cell? ⟨C,2,none⟩=some (.slice p2 c.slots.length q2)/\v.cell? ⟨C,3,none⟩=some (.slice (some ⟨bb,oo,none⟩) L q3)/\v.cell? ⟨bb,oo+k*7,none⟩=some (.int .i64 x.op)/\v.cell? ⟨bb,oo+k*7+1,none⟩=some (.int .i64 x.d)/\v.cell? ⟨bb,oo+k*7+2,none⟩=some (.int .i64 x.a)/\v.cell? ⟨bb,oo+k*7+3,none⟩=some (.int .i64 x.b)/\v.cell? ⟨bb,oo+k*7+4,none⟩=some (.int .i64 x.c)/\v.cell? ⟨bb,oo+k*7+5,none⟩=some (.int .i64 x.n)/\v.cell? ⟨bb,oo+k*7+6,none⟩=some (.int .u32 x.bits)) fun hJ=>?_;refine wpAnyH_take (i:=0) (v:=?_) A5 kR kR kR A6 (Or.inl ⟨rF,?_⟩) A7 ?_
    rotate_left 1
    ·(intro wS hSw;(try dsimp only at hSw);go_simp;try(with_reducible rfl))
    try simp only[Act.put,List.setIfInBounds_toArray,List.set_cons_zero,List.set_cons_succ]
    refine wpAnyH_take (i:=1) (v:=?_) A5 kR kR kR A6 (Or.inl ⟨rF,?_⟩) A7 ?_
    rotate_left 1
    ·(intro wS hSw;(try dsimp only at hSw);go_simp;try(with_reducible rfl))
    try simp only[Act.put,List.setIfInBounds_toArray,List.set_cons_zero,List.set_cons_succ]
    refine wpAnyH_take (i:=2) (v:=?_) A5 kR kR kR A6 (Or.inl ⟨rF,?_⟩) A7 ?_
    rotate_left 1
    ·(intro wS hSw;(try dsimp only at hSw);go_simp;try(with_reducible rfl))
    try simp only[Act.put,List.setIfInBounds_toArray,List.set_cons_zero,List.set_cons_succ]
    refine wpAnyH_take (i:=3) (v:=?_) A5 kR kR kR A6 (Or.inl ⟨rF,?_⟩) A7 ?_
    rotate_left 1
    ·(intro wS hSw;(try dsimp only at hSw);go_simp;try(with_reducible rfl))
    try simp only[Act.put,List.setIfInBounds_toArray,List.set_cons_zero,List.set_cons_succ]
    refine wpAnyH_take (i:=4) (v:=?_) A5 kR kR kR A6 (Or.inl ⟨rF,?_⟩) A7 ?_
    rotate_left 1
    ·(intro wS hSw;(try dsimp only at hSw);go_simp;try(with_reducible rfl))
    try simp only[Act.put,List.setIfInBounds_toArray,List.set_cons_zero,List.set_cons_succ]
    refine wpAnyH_take (i:=5) (v:=?_) A5 kR kR kR A6 (Or.inl ⟨rF,?_⟩) A7 ?_
    rotate_left 1
    ·(intro wS hSw;(try dsimp only at hSw);go_simp;try(with_reducible rfl))
    try simp only[Act.put,List.setIfInBounds_toArray,List.set_cons_zero,List.set_cons_succ]
    refine wpAnyH_take (i:=6) (v:=?_) A5 kR kR kR A6 (Or.inl ⟨rF,?_⟩) A7 ?_
    rotate_left 1
    ·(intro wS hSw;(try dsimp only at hSw);go_simp;try(with_reducible rfl))
    try simp only[Act.put,List.setIfInBounds_toArray,List.set_cons_zero,List.set_cons_succ]
    clear hJ;refine AH 7 fun K hK=>?_;go_simp;(go_at_call 24;(with_reducible refine KW.out.mono ?_);rintro r9 w8 ⟨rfl,hb8⟩;have cC8:=R_C.out.drew.of_block (hb8.block _ R_C.out.drew.lt);obtain⟨x0,x1,x2,x3⟩:=c4 cC8;have t80:=kc hb8 t0;have t81:=kc hb8 t1;have t82:=kc hb8 t2;have t83:=kc hb8 t3;have t84:=kc hb8 t4;have t85:=kc hb8 t5;have t86:=kc hb8 t6;have HB8:=A8 (HBWW.out.trans (hb8.mono (Nat.le_of_lt R_C.out.drew.lt)));have RC8:=A8 cC8;clear hb8 cC8);try(go_wp2_with fail)
    refine AO hK fun hJ=>?_;clear hK K;refine wpAnyH_take (i:=8) (v:=?_) A5 kR kR kR A6 (Or.inl ⟨rF,?_⟩) A7 ?_
    rotate_left 1
    ·(intro wS hSw;(try dsimp only at hSw);go_simp;try(with_reducible rfl))
    try simp only[Act.put,List.setIfInBounds_toArray,List.set_cons_zero,List.set_cons_succ]
    refine wpAnyH_take (i:=9) (v:=?_) A5 kR kR kR A6 (Or.inl ⟨rF,?_⟩) A7 ?_
    rotate_left 1
    ·(intro wS hSw;(try dsimp only at hSw);go_simp;try(with_reducible rfl))
    exact Mg
   ·--{2
    have e1:¬ (k:Int)<(L:Int):=oM;have hkl:c.list.take k=c.list:=List.take_of_length_le (by rw[HL.out];omega);have HF:Hid (B0 c (c.list.take k)=BK c):=by show _=_;rw[hkl];rfl
    have HB:Hid (Below w.heap.size w wr):=by show Below _ _ _;rw[HCW.out];exact HBW.out
    clear hkl hlt;go_wp2_with fail;refine bodyPost_ret (by simp[results,results11,go_sem, *];try rfl) rfl ?_;exact⟨by rw[HF.out,<-HCVV.out,if_pos HE.out],HB.out⟩
 ·--{3
  have qE9:(E==0)=false:=beq_eq_false_iff_ne.2 h0;have HB:Hid (Below w.heap.size w w4):=by show Below _ _ _;rw[HCW.out];exact HBW.out
  have H0:=A8 h0;go_wp2_with fail;refine bodyPost_ret (by simp[results,results11,go_sem, *];try rfl) rfl ?_;exact⟨by rw[<-HCVV.out,if_neg (by rw[HE.out];exact H0.out)],HB.out⟩
def AU(ps:List AX):List Ty->Int
 |[]=>0
 |t::l=>Bb ps t+AU ps l
theorem EX(ps:List AX):∀l m:List Ty,AU ps (l++m)=AU ps l+AU ps m
 |[],m=>by simp[AU]
 |t::l,m=>by simp only[List.cons_append,AU,EX ps l m];omega
theorem DM(ps:List AX):∀l:List Ty,(l.map fun t=>Bb ps t).sum=AU ps l
 |[]=>rfl
 |t::l=>by simp[AU,DM ps l]
theorem E8(c:Cd):BB c=AU c.sign c.regs+AU c.sign (c.slots.map fun s=>s.ty):=by
 unfold BB;rw[DM,<-DM c.sign (c.slots.map fun s=>s.ty),List.map_map];rfl
theorem Du{ps:List AX}{l:List Ty}{k:Nat}(h:k<l.length):AU ps (l.take (k+1))=AU ps (l.take k)+Bb ps l[k]:=by
 rw[List.take_succ_eq_append_getElem h,EX];simp[AU]
theorem Gw{ps:List AX}:∀l:List Ty,(∀t∈l,1<=Bb ps t/\Bb ps t<=4096)->0<=AU ps l/\AU ps l<=4096*(l.length:Int)
 |[],_=>by simp[AU]
 |t::l,h=>by
  have h1:=h t sM;have h2:=Gw l (fun j hj=>h j (List.mem_cons_of_mem _ hj));simp only[AU,List.length_cons];omega
theorem Ck{c:Cd}(hc:(Ai c).1=0):∀t∈c.regs,1<=Bb c.sign t/\Bb c.sign t<=4096:=fun t ht=>by
 have hA:=Cb.1 (AY.1 hc).1;exact Es hA.sign (List.all_eq_true.1 hA.types t ht)
theorem Dd{c:Cd}(hc:(Ai c).1=0):∀t∈c.slots.map (fun s=>s.ty),1<=Bb c.sign t/\Bb c.sign t<=4096:=fun t ht=>by
 have hA:=Cb.1 (AY.1 hc).1;obtain⟨s,hs,rfl⟩:=List.mem_map.1 ht;have h:=List.all_eq_true.1 hA.begun s hs;unfold AE at h;simp only[Bool.and_eq_true]at h;exact Es hA.sign h.1
theorem D9{ps:List AX}{l:List Ty}{k n:Nat}(h:∀t∈l,1<=Bb ps t/\Bb ps t<=4096)(hn:l.length<=n):0<=AU ps (l.take k)/\AU ps (l.take k)<=4096*(n:Int):=by
 have h1:=Gw (l.take k) (fun t ht=>h t (List.mem_of_mem_take ht));have hl:(l.take k).length<=n:=by rw[List.length_take];omega
 omega
theorem EN(p0 p1 p2 p3:Option Addr)(q0 q1 q2 q3:Nat)(c:Cd)(hk:AJ c)(w:World)(hv:Bt w (.slice p0 c.sign.length q0) (.slice p1 c.regs.length q1) (.slice p2 c.slots.length q2) (.slice p3 c.list.length q3) c):
 Calls prog 12 #[.agg #[.slice p0 c.sign.length q0,.slice p1 c.regs.length q1,.slice p2 c.slots.length q2,.slice p3 c.list.length q3]] w fun e w'=>e=.returned (.tuple #[.int .i64 (if(Ai c).1=0 then BB c else 0),.int .i64 (Ai c).1])/\Below w.heap.size w w':=by
 obtain⟨CV,hCV⟩:∃v,(if(Ai c).1=0 then BB c else 0)=v:=⟨_,rfl⟩
 rw[hCV];have HCVV:=A8 hCV;clear hCV;obtain⟨E,hE⟩:∃e,(Ai c).1=e:=⟨_,rfl⟩
 rw[hE];have HE:=A8 hE;clear hE;obtain⟨L1,hL1⟩:∃n,c.regs.length=n:=⟨_,rfl⟩
 rw[hL1]at hv |-;have HL1:=A8 hL1;obtain⟨L2,hL2⟩:∃n,c.slots.length=n:=⟨_,rfl⟩
 rw[hL2]at hv |-;have HL2:=A8 hL2;clear hL1 hL2;obtain⟨C,hS_C⟩:∃N,w.heap.size=N:=⟨_,rfl⟩
 obtain⟨W0,hA_C⟩:∃W,w.alloc (.cells #[.slice p0 c.sign.length q0,.slice p1 L1 q1,.slice p2 L2 q2,.slice p3 c.list.length q3] 27)=W:=⟨_,rfl⟩
 have r9:W0.rowIs C 27 4 (f4 (.slice p0 c.sign.length q0) (.slice p1 L1 q1) (.slice p2 L2 q2) (.slice p3 c.list.length q3)):=Lo;have R_C:=A8 r9;have HBW:Hid (Below C w W0):=Hk hA_C (Nat.le_of_eq hS_C.symm);have HC_C:Hid (C<=C):=gF _;have HCW:=A8 hS_C;clear r9;have HCV:Hid (C<=W0.heap.size):=Nat.le_of_lt R_C.lt;have hbW:Below w.heap.size w W0:=by rw[HCW.out];exact HBW.out
 have HV:=A8 hv;have hKC:=BP _ _ _ _ c hk W0 (hv.below hbW);rw[HE.out]at hKC;have KC:=A8 hKC;clear hv hk hbW hKC;obtain⟨cC0,cC1,cC2,cC3⟩:=c4 R_C.out;go_enter func12,ntmps12;go_upto_region 1 with fail;try rw[hS_C]
 try rw[hA_C]
 clear hS_C hA_C;go_upto_region 2 with(go_at_call 23;(with_reducible refine(KC.out).mono ?_);rintro r9 w4 ⟨rfl,hb⟩;replace R_C:=A8 (R_C.out.of_block (hb.block _ R_C.out.lt));replace HBW:=A8 (HBW.out.trans (hb.mono HCV.out));clear hb)
 clear cC0 cC1 cC2 cC3;by_cases h0:E=0
 .subst h0;have HSL:=A8 (Ci HE.out).1;have HAH:=A8 (Cb.1 (AY.1 HE.out).1);go_upto_block 0 with fail;go_cut [6] (fun nv wx=>nv=.int .i64 (AU c.sign c.regs)/\Hid (wx.rowIs C 27 4 (f4 (.slice p0 c.sign.length q0) (.slice p1 L1 q1) (.slice p2 L2 q2) (.slice p3 c.list.length q3)))/\Hid (Below C w wx))
  case first=>
   go_wp2_with fail;have HJ0:=A8 (And.intro R_C HBW)
   go_loopw [6,7] (fun nv iv wx=>∃k:Nat,k<=L1/\iv=.int .i64 (k:Int)/\nv=.int .i64 (AU c.sign ((c.regs).take k))/\Hid (wx.rowIs C 27 4 (f4 (.slice p0 c.sign.length q0) (.slice p1 L1 q1) (.slice p2 L2 q2) (.slice p3 c.list.length q3)))/\Hid (Below C w wx)) (fun _ iv _=>L1-(intOf iv).toNat)
   case atStart=>exact⟨0,gI _,rfl,rfl,HJ0.1,HJ0.2⟩
   case round=>
    clear R_C HBW HJ0;obtain⟨k,hkk,rfl,rfl,R_C,HBW⟩:=hrel;obtain⟨cC0,cC1,cC2,cC3⟩:=c4 R_C.out;by_cases hlt:k<L1
    ·--{1
     have e1:(k:Int)<(L1:Int):=oM;have hkl:k<c.regs.length:=by rw[HL1.out];exact hlt
     have hkm:k<(c.regs).length:=by exact hkl
     have hat:(c.regs)[k]=c.regs[k]:=rF;have hs1:=Du (ps:=c.sign) hkm;rw[hat]at hs1;have HS1:=A8 hs1;have hbd:∀t∈c.regs,1<=Bb c.sign t/\Bb c.sign t<=4096:=Ck HE.out;obtain⟨hb1,hb2⟩:=hbd _ (gD hkm);rw[hat]at hb1 hb2;obtain⟨hs2,hs3⟩:=D9 (k:=k) (n:=16384) hbd (by exact HAH.regs);have hbW:Below w.heap.size w wr.drew:=by rw[HCW.out];exact HBW.drew
     obtain⟨bb,oo,hpp,hcl⟩:=HV.regs.at hkl;have t0:wr.drew.cell? ⟨bb,oo+k*2,none⟩=some (.int .i64 c.regs[k].kind):=kc hbW (hcl.at 0 (v:=.int .i64 c.regs[k].kind) rfl);have t1:wr.drew.cell? ⟨bb,oo+k*2+1,none⟩=some (.int .i64 c.regs[k].par):=kc hbW (hcl.at 1 (v:=.int .i64 c.regs[k].par) rfl);obtain⟨TY,hTY⟩:∃t,c.regs[k]=t:=⟨_,rfl⟩
     rw[hTY]at HS1 hb1 hb2 t0 t1;have KW:=A8 (Bg TY c.sign p0 q0 wr.drew HSL.out (HV.sign.below hbW));obtain⟨WG,hWG⟩:∃g,Bb c.sign TY=g:=⟨_,rfl⟩
     rw[hWG]at HS1 hb1 hb2 KW;obtain⟨SM,hSM⟩:∃g,AU c.sign ((c.regs).take k)=g:=⟨_,rfl⟩
     rw[hSM]at HS1 hs2 hs3;rw[hSM];have wk:IntKind.i64.wrap ((k:Int)+1)=((k+1:Nat):Int):=by have:=HAH.regs;have:=HAH.slots;have:=HL1.out;have:=HL2.out;rw[IntKind.wrap_i64];omega
     have wS:IntKind.i64.wrap (SM+WG)=SM+WG:=by rw[IntKind.wrap_i64];omega
     have i1:(0:Int)<=(k:Int):=oM;have HBWW:=A8 (HBW.drew);have hk1:k+1<=L1:=hlt;subst hpp;clear hlt hkl hkm hat hs1 hbd hb1 hb2 hs2 hs3 hbW hcl hTY hWG hSM;go_wp2_with fail;refine rG (fun v=>v.cell? ⟨C,0,none⟩=some (.slice p0 c.sign.length q0)/\v.cell? ⟨C,1,none⟩=some (.slice (some ⟨bb,oo,none⟩) L1 q1)/\v.cell? ⟨bb,oo+k*2,none⟩=some (.int .i64 TY.kind)/\v.cell? ⟨bb,oo+k*2+1,none⟩=some (.int .i64 TY.par)) fun hJ=>?_;refine wpAnyH_take (i:=0) (v:=?_) A5 kR kR kR A6 (Or.inl ⟨rF,?_⟩) A7 ?_
     rotate_left 1
     ·(intro wS hSw;(try dsimp only at hSw);go_simp;try(with_reducible rfl))
     try simp only[Act.put,List.setIfInBounds_toArray,List.set_cons_zero,List.set_cons_succ]
     refine wpAnyH_take (i:=1) (v:=?_) A5 kR kR kR A6 (Or.inl ⟨rF,?_⟩) A7 ?_
     rotate_left 1
     ·(intro wS hSw;(try dsimp only at hSw);go_simp;try(with_reducible rfl))
     try simp only[Act.put,List.setIfInBounds_toArray,List.set_cons_zero,List.set_cons_succ]
     refine wpAnyH_take (i:=2) (v:=?_) A5 kR kR kR A6 (Or.inl ⟨rF,?_⟩) A7 ?_
     rotate_left 1
     ·(intro wS hSw;(try dsimp only at hSw);go_simp;try(with_reducible rfl))
     try simp only[Act.put,List.setIfInBounds_toArray,List.set_cons_zero,List.set_cons_succ]
     refine wpAnyH_take (i:=3) (v:=?_) A5 kR kR kR A6 (Or.inl ⟨rF,?_⟩) A7 ?_
     rotate_left 1
     ·(intro wS hSw;(try dsimp only at hSw);go_simp;try(with_reducible rfl))
     try simp only[Act.put,List.setIfInBounds_toArray,List.set_cons_zero,List.set_cons_succ]
     refine wpAnyH_take (i:=4) (v:=?_) A5 kR kR kR A6 (Or.inl ⟨rF,?_⟩) A7 ?_
     rotate_left 1
     ·(intro wS hSw;(try dsimp only at hSw);go_simp;try(with_reducible rfl))
     try simp only[Act.put,List.setIfInBounds_toArray,List.set_cons_zero,List.set_cons_succ]
     refine wpAnyH_take (i:=5) (v:=?_) A5 kR kR kR A6 (Or.inl ⟨rF,?_⟩) A7 ?_
     rotate_left 1
     ·(intro wS hSw;(try dsimp only at hSw);go_simp;try(with_reducible rfl))
     try simp only[Act.put,List.setIfInBounds_toArray,List.set_cons_zero,List.set_cons_succ]
     refine wpAnyH_take (i:=6) (v:=?_) A5 kR kR kR A6 (Or.inl ⟨rF,?_⟩) A7 ?_
     rotate_left 1
     ·(intro wS hSw;(try dsimp only at hSw);go_simp;try(with_reducible rfl))
     try simp only[Act.put,List.setIfInBounds_toArray,List.set_cons_zero,List.set_cons_succ]
     refine wpAnyH_take (i:=7) (v:=?_) A5 kR kR kR A6 (Or.inl ⟨rF,?_⟩) A7 ?_
     rotate_left 1
     ·(intro wS hSw;(try dsimp only at hSw);go_simp;try(with_reducible rfl))
     try simp only[Act.put,List.setIfInBounds_toArray,List.set_cons_zero,List.set_cons_succ]
     clear hJ;refine AH 8 fun K hK=>?_;go_simp;(go_at_call 25;(with_reducible refine KW.out.mono ?_);rintro r9 w8 ⟨rfl,hb8⟩;have cC8:=R_C.out.drew.of_block (hb8.block _ R_C.out.drew.lt);obtain⟨x0,x1,x2,x3⟩:=c4 cC8;have t80:=kc hb8 t0;have t81:=kc hb8 t1;have HB8:=A8 (HBWW.out.trans (hb8.mono (Nat.le_of_lt R_C.out.drew.lt)));have RC8:=A8 cC8;clear hb8 cC8);try(go_wp2_with fail)
     refine AO hK fun hJ=>?_;clear hK K;refine wpAnyH_take (i:=9) (v:=?_) A5 kR kR kR A6 (Or.inl ⟨rF,?_⟩) A7 ?_
     rotate_left 1
     ·(intro wS hSw;(try dsimp only at hSw);go_simp;try(with_reducible rfl))
     try simp only[Act.put,List.setIfInBounds_toArray,List.set_cons_zero,List.set_cons_succ]
     refine wpAnyH_take (i:=10) (v:=?_) A5 kR kR kR A6 (Or.inl ⟨rF,?_⟩) A7 ?_
     rotate_left 1
     ·(intro wS hSw;(try dsimp only at hSw);go_simp;try(with_reducible rfl))
     exact Mg
    ·--{2
     have e1:¬ (k:Int)<(L1:Int):=oM;have hkl:(c.regs).take k=c.regs:=List.take_of_length_le (by rw[HL1.out];omega);have HF:Hid (AU c.sign (c.regs.take k)=AU c.sign c.regs):=by show _=_;rw[hkl]
     clear hkl hlt;go_wp2_with fail;go_meet;exact⟨by rw[HF.out],R_C,HBW⟩
  case rest=>
   clear R_C HBW;obtain⟨rfl,R_C,HBW⟩:=hcut;obtain⟨RR,hRR⟩:∃r,AU c.sign c.regs=r:=⟨_,rfl⟩
   rw[hRR];have HRR:=A8 hRR;clear hRR;go_upto_block 2 with fail;go_wp2_with fail;have HJ0:=A8 (And.intro R_C HBW)
   go_loopw [6,8] (fun nv iv wx=>∃k:Nat,k<=L2/\iv=.int .i64 (k:Int)/\nv=.int .i64 (RR+AU c.sign ((c.slots.map fun s=>s.ty).take k))/\Hid (wx.rowIs C 27 4 (f4 (.slice p0 c.sign.length q0) (.slice p1 L1 q1) (.slice p2 L2 q2) (.slice p3 c.list.length q3)))/\Hid (Below C w wx)) (fun _ iv _=>L2-(intOf iv).toNat)
   case atStart=>exact⟨0,gI _,rfl,by simp[AU],HJ0.1,HJ0.2⟩
   case round=>
    clear R_C HBW HJ0;obtain⟨k,hkk,rfl,rfl,R_C,HBW⟩:=hrel;obtain⟨cC0,cC1,cC2,cC3⟩:=c4 R_C.out;by_cases hlt:k<L2
    ·--{3
     have e1:(k:Int)<(L2:Int):=oM;have hkl:k<c.slots.length:=by rw[HL2.out];exact hlt
     have hkm:k<(c.slots.map fun s=>s.ty).length:=by rw[List.length_map];exact hkl
     have hat:(c.slots.map fun s=>s.ty)[k]=c.slots[k].ty:=sM;have hs1:=Du (ps:=c.sign) hkm;rw[hat]at hs1;have HS1:=A8 hs1;have hbd:∀t∈c.slots.map fun s=>s.ty,1<=Bb c.sign t/\Bb c.sign t<=4096:=Dd HE.out;obtain⟨hb1,hb2⟩:=hbd _ (gD hkm);rw[hat]at hb1 hb2;obtain⟨hs2,hs3⟩:=D9 (k:=k) (n:=16384) hbd (by rw[List.length_map];have:=HAH.slots;omega);have hbW:Below w.heap.size w wr.drew:=by rw[HCW.out];exact HBW.drew
     obtain⟨bb,oo,hpp,hcl⟩:=HV.slots.at hkl;have t0:wr.drew.cell? ⟨bb,oo+k*5,none⟩=some (.int .i64 c.slots[k].ty.kind):=kc hbW (hcl.at 0 (v:=.int .i64 c.slots[k].ty.kind) rfl);have t1:wr.drew.cell? ⟨bb,oo+k*5+1,none⟩=some (.int .i64 c.slots[k].ty.par):=kc hbW (hcl.at 1 (v:=.int .i64 c.slots[k].ty.par) rfl);obtain⟨TY,hTY⟩:∃t,c.slots[k].ty=t:=⟨_,rfl⟩
     rw[hTY]at HS1 hb1 hb2 t0 t1;have KW:=A8 (Bg TY c.sign p0 q0 wr.drew HSL.out (HV.sign.below hbW));obtain⟨WG,hWG⟩:∃g,Bb c.sign TY=g:=⟨_,rfl⟩
     rw[hWG]at HS1 hb1 hb2 KW;obtain⟨SM,hSM⟩:∃g,AU c.sign ((c.slots.map fun s=>s.ty).take k)=g:=⟨_,rfl⟩
     rw[hSM]at HS1 hs2 hs3;rw[hSM];have wk:IntKind.i64.wrap ((k:Int)+1)=((k+1:Nat):Int):=by have:=HAH.regs;have:=HAH.slots;have:=HL1.out;have:=HL2.out;rw[IntKind.wrap_i64];omega
     obtain⟨hr1,hr2⟩:=D9 (ps:=c.sign) (l:=c.regs) (k:=c.regs.length) (n:=16384) (Ck HE.out) HAH.regs;rw[List.take_length,HRR.out]at hr1 hr2;have wS:IntKind.i64.wrap (RR+SM+WG)=RR+SM+WG:=by rw[IntKind.wrap_i64];omega
     have i1:(0:Int)<=(k:Int):=oM;have HBWW:=A8 (HBW.drew);have hk1:k+1<=L2:=hlt;subst hpp;clear hlt hkl hkm hat hs1 hbd hb1 hb2 hs2 hs3 hbW hcl hTY hWG hSM hr1 hr2;go_wp2_with fail;refine rG (fun v=>v.cell? ⟨C,0,none⟩=some (.slice p0 c.sign.length q0)/\v.cell? ⟨C,2,none⟩=some (.slice (some ⟨bb,oo,none⟩) L2 q2)/\v.cell? ⟨bb,oo+k*5,none⟩=some (.int .i64 TY.kind)/\v.cell? ⟨bb,oo+k*5+1,none⟩=some (.int .i64 TY.par)) fun hJ=>?_;refine wpAnyH_take (i:=0) (v:=?_) A5 kR kR kR A6 (Or.inl ⟨rF,?_⟩) A7 ?_
     rotate_left 1
     ·(intro wS hSw;(try dsimp only at hSw);go_simp;try(with_reducible rfl))
     try simp only[Act.put,List.setIfInBounds_toArray,List.set_cons_zero,List.set_cons_succ]
     refine wpAnyH_take (i:=1) (v:=?_) A5 kR kR kR A6 (Or.inl ⟨rF,?_⟩) A7 ?_
     rotate_left 1
     ·(intro wS hSw;(try dsimp only at hSw);go_simp;try(with_reducible rfl))
     try simp only[Act.put,List.setIfInBounds_toArray,List.set_cons_zero,List.set_cons_succ]
     refine wpAnyH_take (i:=2) (v:=?_) A5 kR kR kR A6 (Or.inl ⟨rF,?_⟩) A7 ?_
     rotate_left 1
     ·(intro wS hSw;(try dsimp only at hSw);go_simp;try(with_reducible rfl))
     try simp only[Act.put,List.setIfInBounds_toArray,List.set_cons_zero,List.set_cons_succ]
     refine wpAnyH_take (i:=3) (v:=?_) A5 kR kR kR A6 (Or.inl ⟨rF,?_⟩) A7 ?_
     rotate_left 1
     ·(intro wS hSw;(try dsimp only at hSw);go_simp;try(with_reducible rfl))
     try simp only[Act.put,List.setIfInBounds_toArray,List.set_cons_zero,List.set_cons_succ]
     refine wpAnyH_take (i:=4) (v:=?_) A5 kR kR kR A6 (Or.inl ⟨rF,?_⟩) A7 ?_
     rotate_left 1
     ·(intro wS hSw;(try dsimp only at hSw);go_simp;try(with_reducible rfl))
     try simp only[Act.put,List.setIfInBounds_toArray,List.set_cons_zero,List.set_cons_succ]
     refine wpAnyH_take (i:=5) (v:=?_) A5 kR kR kR A6 (Or.inl ⟨rF,?_⟩) A7 ?_
     rotate_left 1
     ·(intro wS hSw;(try dsimp only at hSw);go_simp;try(with_reducible rfl))
     try simp only[Act.put,List.setIfInBounds_toArray,List.set_cons_zero,List.set_cons_succ]
     refine wpAnyH_take (i:=6) (v:=?_) A5 kR kR kR A6 (Or.inl ⟨rF,?_⟩) A7 ?_
     rotate_left 1
     ·(intro wS hSw;(try dsimp only at hSw);go_simp;try(with_reducible rfl))
     try simp only[Act.put,List.setIfInBounds_toArray,List.set_cons_zero,List.set_cons_succ]
     refine wpAnyH_take (i:=7) (v:=?_) A5 kR kR kR A6 (Or.inl ⟨rF,?_⟩) A7 ?_
     rotate_left 1
     ·(intro wS hSw;(try dsimp only at hSw);go_simp;try(with_reducible rfl))
     try simp only[Act.put,List.setIfInBounds_toArray,List.set_cons_zero,List.set_cons_succ]
     refine wpAnyH_take (i:=8) (v:=?_) A5 kR kR kR A6 (Or.inl ⟨rF,?_⟩) A7 ?_
     rotate_left 1
     ·(intro wS hSw;(try dsimp only at hSw);go_simp;try(with_reducible rfl))
     try simp only[Act.put,List.setIfInBounds_toArray,List.set_cons_zero,List.set_cons_succ]
     clear hJ;refine AH 9 fun K hK=>?_;go_simp;(go_at_call 25;(with_reducible refine KW.out.mono ?_);rintro r9 w8 ⟨rfl,hb8⟩;have cC8:=R_C.out.drew.of_block (hb8.block _ R_C.out.drew.lt);obtain⟨x0,x1,x2,x3⟩:=c4 cC8;have t80:=kc hb8 t0;have t81:=kc hb8 t1;have HB8:=A8 (HBWW.out.trans (hb8.mono (Nat.le_of_lt R_C.out.drew.lt)));have RC8:=A8 cC8;clear hb8 cC8);try(go_wp2_with fail)
     refine AO hK fun hJ=>?_;clear hK K;refine wpAnyH_take (i:=10) (v:=?_) A5 kR kR kR A6 (Or.inl ⟨rF,?_⟩) A7 ?_
     rotate_left 1
     ·(intro wS hSw;(try dsimp only at hSw);go_simp;try(with_reducible rfl))
     try simp only[Act.put,List.setIfInBounds_toArray,List.set_cons_zero,List.set_cons_succ]
     refine wpAnyH_take (i:=11) (v:=?_) A5 kR kR kR A6 (Or.inl ⟨rF,?_⟩) A7 ?_
     rotate_left 1
     ·(intro wS hSw;(try dsimp only at hSw);go_simp;try(with_reducible rfl))
     try simp only[Act.put,List.setIfInBounds_toArray,List.set_cons_zero,List.set_cons_succ]
     refine wpAnyH_done kR ?_ _;go_wp2_with fail;go_roundw
     case rel=>exact⟨k+1,hk1,gN,by rw[HS1.out];congr 1;omega,RC8,HB8⟩
     case measure=>simp[intOf];omega
    ·--{4
     have e1:¬ (k:Int)<(L2:Int):=oM;have hkl:(c.slots.map fun s=>s.ty).take k=c.slots.map fun s=>s.ty:=List.take_of_length_le (by rw[List.length_map,HL2.out];omega);have HF:Hid (RR+AU c.sign ((c.slots.map fun s=>s.ty).take k)=BB c):=by show _=_;rw[hkl,E8,HRR.out]
     have HB:Hid (Below w.heap.size w wr):=by show Below _ _ _;rw[HCW.out];exact HBW.out
     clear hkl hlt;go_wp2_with fail;refine bodyPost_ret (by simp[results,results12,go_sem, *];try rfl) rfl ?_;exact⟨by rw[HF.out,<-HCVV.out,if_pos HE.out],HB.out⟩
 ·--{5
  have qE9:(E==0)=false:=beq_eq_false_iff_ne.2 h0;have HB:Hid (Below w.heap.size w w4):=by show Below _ _ _;rw[HCW.out];exact HBW.out
  have H0:=A8 h0;go_wp2_with fail;refine bodyPost_ret (by simp[results,results12,go_sem, *];try rfl) rfl ?_;exact⟨by rw[<-HCVV.out,if_neg (by rw[HE.out];exact H0.out)],HB.out⟩
def AB(c:Cd)(at_:Int):Int×Int:=if(Ai c).1≠0 then(0,(Ai c).1)else if Ae at_ c.list.length=true then(((c.list[at_.toNat]?).map (B7 c)).getD 0,0)else(0,1)
def Cy(c:Cd):Int:=if(Ai c).1≠0 then(Ai c).1 else if 16777216<BB c then 261 else if 4294967296<BK c then 260 else 0
theorem FG(p0 p1 p2 p3:Option Addr)(q0 q1 q2 q3:Nat)(c:Cd)(hk:AJ c)(at_:Int)(w:World)(hv:Bt w (.slice p0 c.sign.length q0) (.slice p1 c.regs.length q1) (.slice p2 c.slots.length q2) (.slice p3 c.list.length q3) c):
 Calls prog 13 #[.agg #[.slice p0 c.sign.length q0,.slice p1 c.regs.length q1,.slice p2 c.slots.length q2,.slice p3 c.list.length q3],.int .i64 at_] w fun e w'=>e=.returned (.tuple #[.int .i64 (AB c at_).1,.int .i64 (AB c at_).2])/\Below w.heap.size w w':=by
 obtain⟨X1,hX1⟩:∃v,(AB c at_).1=v:=⟨_,rfl⟩
 obtain⟨X2,hX2⟩:∃v,(AB c at_).2=v:=⟨_,rfl⟩
 rw[hX1,hX2];have HXV:Hid (AB c at_=(X1,X2)):=by show _=_;rw[<-hX1,<-hX2]
 clear hX1 hX2;obtain⟨E,hE⟩:∃e,(Ai c).1=e:=⟨_,rfl⟩
 have HE:=A8 hE;clear hE;obtain⟨L,hL⟩:∃n,c.list.length=n:=⟨_,rfl⟩
 rw[hL]at hv |-;have HL:=A8 hL;clear hL;obtain⟨C,hS_C⟩:∃N,w.heap.size=N:=⟨_,rfl⟩
 obtain⟨W0,hA_C⟩:∃W,w.alloc (.cells #[.slice p0 c.sign.length q0,.slice p1 c.regs.length q1,.slice p2 c.slots.length q2,.slice p3 L q3] 27)=W:=⟨_,rfl⟩
 have r9:W0.rowIs C 27 4 (f4 (.slice p0 c.sign.length q0) (.slice p1 c.regs.length q1) (.slice p2 c.slots.length q2) (.slice p3 L q3)):=Lo;have R_C:=A8 r9;have HBW:Hid (Below C w W0):=Hk hA_C (Nat.le_of_eq hS_C.symm);have HC_C:Hid (C<=C):=gF _;have HCW:=A8 hS_C;clear r9;have HCV:Hid (C<=W0.heap.size):=Nat.le_of_lt R_C.lt;have hbW:Below w.heap.size w W0:=by rw[HCW.out];exact HBW.out
 have HV:=A8 hv;have hKC:=BP _ _ _ _ c hk W0 (hv.below hbW);rw[HE.out]at hKC;have KC:=A8 hKC;clear hv hk hbW hKC;obtain⟨cC0,cC1,cC2,cC3⟩:=c4 R_C.out;go_enter func13,ntmps13;go_upto_region 1 with fail;try rw[hS_C]
 try rw[hA_C]
 clear hS_C hA_C;go_upto_region 2 with(go_at_call 23;(with_reducible refine(KC.out).mono ?_);rintro r9 w4 ⟨rfl,hb⟩;replace R_C:=A8 (R_C.out.of_block (hb.block _ R_C.out.lt));replace HBW:=A8 (HBW.out.trans (hb.mono HCV.out));clear hb)
 clear cC0 cC1 cC2 cC3;have HB:Hid (Below w.heap.size w w4):=by show Below _ _ _;rw[HCW.out];exact HBW.out
 by_cases h0:E=0
 .subst h0;by_cases hp:0<=at_/\at_<(L:Int)
  ·--{1
   obtain⟨k,rfl⟩:∃k:Nat,at_=(k:Int):=⟨at_.toNat,oM⟩
   have hkl:k<c.list.length:=by have:=HL.out;omega
   have e1:¬ (k:Int)<0:=oM;have e2:¬ (L:Int)<=(k:Int):=oM;have e3:(k:Int)<(L:Int):=oM;have i1:(0:Int)<=(k:Int):=oM;have hxv:(B7 c c.list[k],(0:Int))=(X1,X2):=by
    rw[<-HXV.out];unfold AB;rw[if_neg Km,if_pos (Am.2 ⟨oM,by rw[HL.out];exact e3⟩),Int.toNat_natCast,gB hkl];rfl
   obtain⟨hd,ha⟩:=Gy HE.out c.list[k] (gD hkl);have hbW:Below w.heap.size w w4.drew:=HB.drew;obtain⟨bb,oo,hpp,hcl⟩:=HV.list.at hkl;have t0:w4.drew.cell? ⟨bb,oo+k*7,none⟩=some (.int .i64 c.list[k].op):=kc hbW (hcl.at 0 (v:=.int .i64 c.list[k].op) rfl);have t1:w4.drew.cell? ⟨bb,oo+k*7+1,none⟩=some (.int .i64 c.list[k].d):=kc hbW (hcl.at 1 (v:=.int .i64 c.list[k].d) rfl);have t2:w4.drew.cell? ⟨bb,oo+k*7+2,none⟩=some (.int .i64 c.list[k].a):=kc hbW (hcl.at 2 (v:=.int .i64 c.list[k].a) rfl);have t3:w4.drew.cell? ⟨bb,oo+k*7+3,none⟩=some (.int .i64 c.list[k].b):=kc hbW (hcl.at 3 (v:=.int .i64 c.list[k].b) rfl);have t4:w4.drew.cell? ⟨bb,oo+k*7+4,none⟩=some (.int .i64 c.list[k].c):=kc hbW (hcl.at 4 (v:=.int .i64 c.list[k].c) rfl);have t5:w4.drew.cell? ⟨bb,oo+k*7+5,none⟩=some (.int .i64 c.list[k].n):=kc hbW (hcl.at 5 (v:=.int .i64 c.list[k].n) rfl);have t6:w4.drew.cell? ⟨bb,oo+k*7+6,none⟩=some (.int .u32 c.list[k].bits):=kc hbW (hcl.at 6 (v:=.int .u32 c.list[k].bits) rfl);have HVW:=HV.below hbW;obtain⟨x,hx⟩:=gA (c.list[k])
   rw[hx]at hxv hd ha t0 t1 t2 t3 t4 t5 t6;have KW:=A8 (CT p0 p1 p2 p3 q0 q1 q2 q3 c (Ci HE.out).1 x.op x.d x.a x.b x.c x.n x.bits hd ha w4.drew (by rw[HL.out];exact HVW));rw[HL.out]at KW;simp only[Prod.mk.injEq]at hxv;obtain⟨hx1,hx2⟩:=hxv;have hx3:B7 c ⟨x.op,x.d,x.a,x.b,x.c,x.n,x.bits⟩=X1:=hx1;rw[hx3]at KW;subst hx2;have HBWW:=A8 hbW;subst hpp;clear hp hkl hd ha hbW hcl HVW hx hx1 hx3;obtain⟨cC0,cC1,cC2,cC3⟩:=c4 R_C.out;go_wp2_with fail;refine rG (fun v=>v.cell? ⟨C,0,none⟩=some (.slice p0 c.sign.length q0)/\v.cell? ⟨C,1,none⟩=some (.slice p1 c.regs.length q1)/\v.cell? ⟨C,2,none⟩=some (.slice p2 c.slots.length q2)/\v.cell? ⟨C,3,none⟩=some (.slice (some ⟨bb,oo,none⟩) L q3)/\v.cell? ⟨bb,oo+k*7,none⟩=some (.int .i64 x.op)/\v.cell? ⟨bb,oo+k*7+1,none⟩=some (.int .i64 x.d)/\v.cell? ⟨bb,oo+k*7+2,none⟩=some (.int .i64 x.a)/\v.cell? ⟨bb,oo+k*7+3,none⟩=some (.int .i64 x.b)/\v.cell? ⟨bb,oo+k*7+4,none⟩=some (.int .i64 x.c)/\v.cell? ⟨bb,oo+k*7+5,none⟩=some (.int .i64 x.n)/\v.cell? ⟨bb,oo+k*7+6,none⟩=some (.int .u32 x.bits)) fun hJ=>?_;refine wpAnyH_take (i:=0) (v:=?_) A5 kR kR kR A6 (Or.inl ⟨rF,?_⟩) A7 ?_
   rotate_left 1
   ·(intro wS hSw;(try dsimp only at hSw);go_simp;try(with_reducible rfl))
   try simp only[Act.put,List.setIfInBounds_toArray,List.set_cons_zero,List.set_cons_succ]
   refine wpAnyH_take (i:=1) (v:=?_) A5 kR kR kR A6 (Or.inl ⟨rF,?_⟩) A7 ?_
   rotate_left 1
   ·(intro wS hSw;(try dsimp only at hSw);go_simp;try(with_reducible rfl))
   try simp only[Act.put,List.setIfInBounds_toArray,List.set_cons_zero,List.set_cons_succ]
   refine wpAnyH_take (i:=2) (v:=?_) A5 kR kR kR A6 (Or.inl ⟨rF,?_⟩) A7 ?_
   rotate_left 1
   ·(intro wS hSw;(try dsimp only at hSw);go_simp;try(with_reducible rfl))
   try simp only[Act.put,List.setIfInBounds_toArray,List.set_cons_zero,List.set_cons_succ]
   refine wpAnyH_take (i:=3) (v:=?_) A5 kR kR kR A6 (Or.inl ⟨rF,?_⟩) A7 ?_
   rotate_left 1
   ·(intro wS hSw;(try dsimp only at hSw);go_simp;try(with_reducible rfl))
   try simp only[Act.put,List.setIfInBounds_toArray,List.set_cons_zero,List.set_cons_succ]
   refine wpAnyH_take (i:=4) (v:=?_) A5 kR kR kR A6 (Or.inl ⟨rF,?_⟩) A7 ?_
   rotate_left 1
   ·(intro wS hSw;(try dsimp only at hSw);go_simp;try(with_reducible rfl))
   try simp only[Act.put,List.setIfInBounds_toArray,List.set_cons_zero,List.set_cons_succ]
   refine wpAnyH_take (i:=5) (v:=?_) A5 kR kR kR A6 (Or.inl ⟨rF,?_⟩) A7 ?_
   rotate_left 1
   ·(intro wS hSw;(try dsimp only at hSw);go_simp;try(with_reducible rfl))
   try simp only[Act.put,List.setIfInBounds_toArray,List.set_cons_zero,List.set_cons_succ]
   clear hJ;refine AH 6 fun K hK=>?_;go_simp;(go_at_call 24;(with_reducible refine KW.out.mono ?_);rintro r9 w8 ⟨rfl,hb8⟩;have cC8:=R_C.out.drew.of_block (hb8.block _ R_C.out.drew.lt);obtain⟨x0,x1,x2,x3⟩:=c4 cC8;have t80:=kc hb8 t0;have t81:=kc hb8 t1;have t82:=kc hb8 t2;have t83:=kc hb8 t3;have t84:=kc hb8 t4;have t85:=kc hb8 t5;have t86:=kc hb8 t6;have HB8:=A8 (HBWW.out.trans (hb8.mono HBWW.out.size));clear hb8 cC8);try(go_wp2_with fail)
   refine AO hK fun hJ=>?_;clear hK K;refine wpAnyH_take (i:=7) (v:=?_) A5 kR kR kR A6 (Or.inl ⟨rF,?_⟩) A7 ?_
   rotate_left 1
   ·(intro wS hSw;(try dsimp only at hSw);go_simp;try(with_reducible rfl))
   try simp only[Act.put,List.setIfInBounds_toArray,List.set_cons_zero,List.set_cons_succ]
   refine wpAnyH_take (i:=8) (v:=?_) A5 kR kR kR A6 (Or.inl ⟨rF,?_⟩) A7 ?_
   rotate_left 1
   ·(intro wS hSw;(try dsimp only at hSw);go_simp;try(with_reducible rfl))
   try simp only[Act.put,List.setIfInBounds_toArray,List.set_cons_zero,List.set_cons_succ]
   refine wpAnyH_done kR ?_ _;go_wp2_with fail;refine bodyPost_ret (by simp[results,results13,go_sem, *];try rfl) rfl ?_;exact⟨rfl,HB8.out⟩
  ·--{2
   have hxv:((0:Int),(1:Int))=(X1,X2):=by
    rw[<-HXV.out];unfold AB;rw[if_neg Km,if_neg (by rw[Am,HL.out];exact hp)]
   simp only[Prod.mk.injEq]at hxv;obtain⟨rfl,rfl⟩:=hxv;obtain⟨cC0,cC1,cC2,cC3⟩:=c4 R_C.out;by_cases hn:at_<0
   .have HX:=A8 hn;clear hp;exact LH
   .have e2:(L:Int)<=at_:=oM;clear hp;exact LH
 ·--{3
  have hxv:((0:Int),E)=(X1,X2):=by
   rw[<-HXV.out];unfold AB;rw[if_pos (by rw[HE.out];exact h0),HE.out]
  simp only[Prod.mk.injEq]at hxv;obtain⟨rfl,rfl⟩:=hxv;have qE9:(E==0)=false:=beq_eq_false_iff_ne.2 h0;exact LH
theorem Bh(C:Nat)(v0 v1 v2 v3:Value)(c:Cd)(hsl:c.sign.length<=1000000)(t:Ty)(ht:t.kind=3->Ae t.par c.sign.length=true)(w:World)(hat:AM w C v0 v1 v2 v3 c):
 Calls prog 30 #[.pointer (some ⟨C,0,none⟩),.agg #[.int .i64 t.kind,.int .i64 t.par]] w fun e w'=>e=.returned (.int .i64 (Bb c.sign t))/\Below w.heap.size w w':=by
 obtain⟨kd,pr⟩:=t;have c0:w.cell? ⟨C,0,none⟩=some v0:=hat.1.at 0 rfl;have hv:=hat.2.sign;have HBN:Hid (C<w.heap.size):=Ac c0;have nC:¬C=w.heap.size:=by have:=HBN.out;omega
 by_cases hk:kd=3
 .have k1:(kd != 3)=false:=by simp[hk]
  have k2:(kd==3)=true:=by simp[hk]
  have hp:=Am.1 (ht hk);obtain⟨P,rfl⟩:=Int.eq_ofNat_of_zero_le (show 0<=pr from hp.1);have hPl:P<c.sign.length:=by have:=hp.2;simp only at this;omega
  have HV:Hid (Bb c.sign ⟨kd,(P:Int)⟩=c.sign[P].len):=by
   show _=_;unfold Bb;rw[if_neg (by simp[hk]),if_pos (ht hk),show(⟨kd,(P:Int)⟩:Ty).par.toNat=P from Int.toNat_natCast P,gB hPl];rfl
  rw[HV.out];obtain⟨p0,q0,rfl,-⟩:=id hv;obtain⟨b,o,rfl,hcl⟩:=hv.at hPl;have y2:w.cell? ⟨b,o+P*3+2,none⟩=some (.int .i64 c.sign[P].len):=hcl.at 2 (v:=.int .i64 c.sign[P].len) rfl;have lb:b<w.heap.size:=Ac y2;have nb:¬b=w.heap.size:=oM;obtain⟨N,hN⟩:=gA (c.sign.length)
  rw[hN]at c0;have i1:¬ ((P:Int)<0):=oM;have i2:¬ ((N:Int)<=(P:Int)):=oM;have i3:(P:Int)<(N:Int):=oM;have i4:(0:Int)<=(P:Int):=oM;have i5:P<N:=oM;obtain⟨LN,hLN⟩:∃n,c.sign[P].len=n:=⟨_,rfl⟩
  rw[hLN]at y2;rw[hLN];obtain⟨B,hB⟩:∃n,w.heap.size=n:=⟨_,rfl⟩
  subst hk;obtain⟨W1,hW1⟩:∃W,w.alloc (.cells #[.int .i64 3,.int .i64 (P:Int)] 47)=W:=⟨_,rfl⟩
  have hb1:Below w.heap.size w W1:=by rw[<-hW1];exact A0 _ _
  have c1:=kc hb1 c0;have y3:=kc hb1 y2;have z0:W1.cell? ⟨B,0,none⟩=some (.int .i64 3):=by rw[<-hW1,<-hB];simp[go_sem]
  have z1:W1.cell? ⟨B,1,none⟩=some (.int .i64 (P:Int)):=by rw[<-hW1,<-hB];simp[go_sem]
  have HB1:=A8 hb1;have HBB:=A8 hB;clear hv hcl hN hp ht hat hsl hb1 hLN HV c0 y2;go_enter func30,ntmps30;go_upto_region 2 with fail;try rw[hW1]
  try rw[hB]
  clear hW1 hB;refine rG (fun v=>v.cell? ⟨C,0,none⟩=some (.slice (some ⟨b,o,none⟩) N q0)/\v.cell? ⟨B,1,none⟩=some (.int .i64 (P:Int))/\v.cell? ⟨b,o+P*3+2,none⟩=some (.int .i64 LN)) fun hJ=>?_;refine wpAnyH_take (i:=0) (v:=?_) A5 kR kR kR A6 (Or.inl ⟨rF,?_⟩) A7 ?_
  rotate_left 1
  ·(intro wS hSw;(try dsimp only at hSw);go_simp;try(with_reducible rfl))
  try simp only[Act.put,List.setIfInBounds_toArray,List.set_cons_zero,List.set_cons_succ]
  refine wpAnyH_take (i:=1) (v:=?_) A5 kR kR kR A6 (Or.inl ⟨rF,?_⟩) A7 ?_
  rotate_left 1
  ·(intro wS hSw;(try dsimp only at hSw);go_simp;try(with_reducible rfl))
  try simp only[Act.put,List.setIfInBounds_toArray,List.set_cons_zero,List.set_cons_succ]
  refine wpAnyH_take (i:=2) (v:=?_) A5 kR kR kR A6 (Or.inl ⟨rF,?_⟩) A7 ?_
  rotate_left 1
  ·(intro wS hSw;(try dsimp only at hSw);go_simp;try(with_reducible rfl))
  try simp only[Act.put,List.setIfInBounds_toArray,List.set_cons_zero,List.set_cons_succ]
  refine wpAnyH_take (i:=3) (v:=?_) A5 kR kR kR A6 (Or.inl ⟨rF,?_⟩) A7 ?_
  rotate_left 1
  ·(intro wS hSw;(try dsimp only at hSw);go_simp;try(with_reducible rfl))
  try simp only[Act.put,List.setIfInBounds_toArray,List.set_cons_zero,List.set_cons_succ]
  refine wpAnyH_take (i:=4) (v:=?_) A5 kR kR kR A6 (Or.inl ⟨rF,?_⟩) A7 ?_
  rotate_left 1
  ·(intro wS hSw;(try dsimp only at hSw);go_simp;try(with_reducible rfl))
  try simp only[Act.put,List.setIfInBounds_toArray,List.set_cons_zero,List.set_cons_succ]
  refine wpAnyH_take (i:=5) (v:=?_) A5 kR kR kR A6 (Or.inl ⟨rF,?_⟩) A7 ?_
  rotate_left 1
  ·(intro wS hSw;(try dsimp only at hSw);go_simp;try(with_reducible rfl))
  try simp only[Act.put,List.setIfInBounds_toArray,List.set_cons_zero,List.set_cons_succ]
  refine wpAnyH_take (i:=6) (v:=?_) A5 kR kR kR A6 (Or.inl ⟨rF,?_⟩) A7 ?_
  rotate_left 1
  ·(intro wS hSw;(try dsimp only at hSw);go_simp;try(with_reducible rfl))
  try simp only[Act.put,List.setIfInBounds_toArray,List.set_cons_zero,List.set_cons_succ]
  refine wpAnyH_take (i:=7) (v:=?_) A5 kR kR kR A6 (Or.inl ⟨rF,?_⟩) A7 ?_
  rotate_left 1
  ·(intro wS hSw;(try dsimp only at hSw);go_simp;try(with_reducible rfl))
  try simp only[Act.put,List.setIfInBounds_toArray,List.set_cons_zero,List.set_cons_succ]
  refine wpAnyH_take (i:=8) (v:=?_) A5 kR kR kR A6 (Or.inl ⟨rF,?_⟩) A7 ?_
  rotate_left 1
  ·(intro wS hSw;(try dsimp only at hSw);go_simp;try(with_reducible rfl))
  try simp only[Act.put,List.setIfInBounds_toArray,List.set_cons_zero,List.set_cons_succ]
  refine wpAnyH_take (i:=9) (v:=?_) A5 kR kR kR A6 (Or.inl ⟨rF,?_⟩) A7 ?_
  rotate_left 1
  ·(intro wS hSw;(try dsimp only at hSw);go_simp;try(with_reducible rfl))
  try simp only[Act.put,List.setIfInBounds_toArray,List.set_cons_zero,List.set_cons_succ]
  refine wpAnyH_done kR ?_ _;go_wp2_with fail;go_ret;exact⟨rfl,HB1.drew⟩
 .have k1:(kd != 3)=true:=by simp[hk]
  have k2:(kd==3)=false:=by simp[hk]
  have HV:Hid (Bb c.sign ⟨kd,pr⟩=1):=by show _=_;unfold Bb;rw[if_pos hk]
  rw[HV.out];clear hv hat ht;go_enter func30,ntmps30;go_wp2;go_ret;exact⟨rfl,A0 _ _⟩
theorem FM(r k:Int)(w:World):
 Calls prog 27 #[.int .i64 r,.int .i64 k] w fun e w'=>e=.returned (.int .i64 (if 16777216<r then 261 else if 4294967296<k then 260 else 0))/\w'=w:=by
 by_cases h1:16777216<r
 .rw[if_pos h1];exact LL
 .rw[if_neg h1];have h1b:¬ (r>16777216):=h1;by_cases h2:4294967296<k
  .rw[if_pos h2];exact LL
  .rw[if_neg h2];have h2b:¬ (k>4294967296):=h2;exact LL
theorem DR(C B O:Nat)(v0 v1 v2 v3:Value)(c:Cd)(hsl:c.sign.length<=1000000)(x:Ay)(hd:(Aw x.op=true\/x.op=29\/x.op=30\/x.op=32)->Ae x.d c.regs.length=true)(ha:(x.op=31\/x.op=33\/x.op=19\/x.op=20)->Ae x.a c.regs.length=true)(hty:∀t∈c.regs,t.kind=3->Ae t.par c.sign.length=true)(w:World)(hat:AM w C v0 v1 v2 v3 c)(hx:Al w B O (C9 x)):
 Calls prog 22 #[.pointer (some ⟨C,0,none⟩),.pointer (some ⟨B,O,none⟩)] w fun e w'=>e=.returned (.int .i64 (B7 c x))/\Below w.heap.size w w':=by
 obtain⟨op,d,a,b,cc,n,bits⟩:=x;have x0:w.cell? ⟨B,O,none⟩=some (.int .i64 op):=hx.at 0 rfl;have x1:w.cell? ⟨B,O+1,none⟩=some (.int .i64 d):=hx.at 1 rfl;have x2:w.cell? ⟨B,O+2,none⟩=some (.int .i64 a):=hx.at 2 rfl;have HB0:Hid (Below w.heap.size w w):=Below.refl _ _;have KE:Hid (∀v,Calls prog 31 #[.int .i64 op] v fun e w'=>e=.returned (.bool (Aw op))/\w'=v):=fun v=>C5 op v;simp only at hd ha;obtain⟨EP,hEP⟩:∃b,Aw op=b:=⟨_,rfl⟩
 rw[hEP]at KE hd;clear hx;by_cases hE:EP=true
 ·--{10
  rw[hE]at KE;have h5:EP=true\/op=29\/op=30\/op=32:=.inl hE;have h6:(Aw op=true\/op=29\/op=30\/op=32):=by rw[hEP];exact h5
  have h16:¬op=16:=by rintro rfl;rw[hE]at hEP;exact absurd hEP dE
  have hin:=hd h5;obtain⟨R,rfl⟩:∃R:Nat,d=(R:Int):=⟨d.toNat,by have:=Am.1 hin;omega⟩
  have hR:R<c.regs.length:=by have:=Am.1 hin;omega
  have HV:Hid (B7 c ⟨op,(R:Int),a,b,cc,n,bits⟩=Bb c.sign c.regs[R]):=by
   show _=_;unfold B7;rw[if_neg h16,if_pos h6];exact F2
  rw[HV.out];obtain⟨p1,q1,rfl,-⟩:=id hat.2.regs;have hat0:=hat;obtain⟨bb,oo,hpp,hcl⟩:=hat.2.regs.at hR;have KW:=A8 (fun(v:World) (h:Below w.heap.size w v)=>Bh C _ _ _ _ c hsl c.regs[R] (hty _ (gD hR)) v (hat0.below h));have c1:w.cell? ⟨C,1,none⟩=some (.slice p1 c.regs.length q1):=hat.1.at 1 rfl;have t0:w.cell? ⟨bb,oo+R*2,none⟩=some (.int .i64 c.regs[R].kind):=hcl.at 0 (v:=.int .i64 c.regs[R].kind) rfl;have t1:w.cell? ⟨bb,oo+R*2+1,none⟩=some (.int .i64 c.regs[R].par):=hcl.at 1 (v:=.int .i64 c.regs[R].par) rfl;have KWW:=A8 (KW.out w.drew (Aa _));obtain⟨TY,hTY⟩:∃t,c.regs[R]=t:=⟨_,rfl⟩
  rw[hTY]at t0 t1 KWW;rw[hTY];obtain⟨RL,hRL⟩:∃n,c.regs.length=n:=⟨_,rfl⟩
  rw[hRL]at c1 hR;have i1:(0:Int)<=(R:Int):=oM;have i2:(R:Int)<(RL:Int):=oM;have HBWW:=A8 (Aa w);subst hpp;clear hin hcl KW hTY HV hd ha hEP hat hat0 hRL hty h5 h6 h16 hE;go_enter func22,ntmps22;go_upto_region 2 with(go_at_call 31;(with_reducible refine(KE.out _).mono ?_);rintro r9 w8 ⟨rfl,hw8⟩;have hw8:=hw8.symm;subst hw8)
  exact KU
 .have hE2:EP=false:=by simpa using hE
  rw[hE2]at KE;by_cases h16:op=16
  .have q16:(op==16)=true:=by simp[h16]
   have HV:Hid (B7 c ⟨op,d,a,b,cc,n,bits⟩=62):=by show _=_;unfold B7;rw[if_pos h16]
   rw[HV.out];clear hd ha hEP hat h16 hE2 hE hty;exact Mf
  .have q16:(op==16)=false:=by simp[h16]
   by_cases h29:op=29
   .have q29:(op==29)=true:=by simp[h29]
    have h5:EP=true\/op=29\/op=30\/op=32:=.inr (.inl h29);have h6:(Aw op=true\/op=29\/op=30\/op=32):=by rw[hEP];exact h5
    have hin:=hd h5;obtain⟨R,rfl⟩:∃R:Nat,d=(R:Int):=⟨d.toNat,by have:=Am.1 hin;omega⟩
    have hR:R<c.regs.length:=by have:=Am.1 hin;omega
    have HV:Hid (B7 c ⟨op,(R:Int),a,b,cc,n,bits⟩=Bb c.sign c.regs[R]):=by
     show _=_;unfold B7;rw[if_neg h16,if_pos h6];exact F2
    rw[HV.out];obtain⟨p1,q1,rfl,-⟩:=id hat.2.regs;have hat0:=hat;obtain⟨bb,oo,hpp,hcl⟩:=hat.2.regs.at hR;have KW:=A8 (fun(v:World) (h:Below w.heap.size w v)=>Bh C _ _ _ _ c hsl c.regs[R] (hty _ (gD hR)) v (hat0.below h));have c1:w.cell? ⟨C,1,none⟩=some (.slice p1 c.regs.length q1):=hat.1.at 1 rfl;have t0:w.cell? ⟨bb,oo+R*2,none⟩=some (.int .i64 c.regs[R].kind):=hcl.at 0 (v:=.int .i64 c.regs[R].kind) rfl;have t1:w.cell? ⟨bb,oo+R*2+1,none⟩=some (.int .i64 c.regs[R].par):=hcl.at 1 (v:=.int .i64 c.regs[R].par) rfl;have KWW:=A8 (KW.out w.drew (Aa _));obtain⟨TY,hTY⟩:∃t,c.regs[R]=t:=⟨_,rfl⟩
    rw[hTY]at t0 t1 KWW;rw[hTY];obtain⟨RL,hRL⟩:∃n,c.regs.length=n:=⟨_,rfl⟩
    rw[hRL]at c1 hR;have i1:(0:Int)<=(R:Int):=oM;have i2:(R:Int)<(RL:Int):=oM;have HBWW:=A8 (Aa w);subst hpp;clear hin hcl KW hTY HV hd ha hEP hat hat0 hRL hty h5 h6 h16 hE2 hE h29;go_enter func22,ntmps22;go_upto_region 9 with(go_at_call 31;(with_reducible refine(KE.out _).mono ?_);rintro r9 w8 ⟨rfl,hw8⟩;have hw8:=hw8.symm;subst hw8)
    exact KU
   .have q29:(op==29)=false:=by simp[h29]
    by_cases h30:op=30
    .have q30:(op==30)=true:=by simp[h30]
     have h5:EP=true\/op=29\/op=30\/op=32:=.inr (.inr (.inl h30));have h6:(Aw op=true\/op=29\/op=30\/op=32):=by rw[hEP];exact h5
     have hin:=hd h5;obtain⟨R,rfl⟩:∃R:Nat,d=(R:Int):=⟨d.toNat,by have:=Am.1 hin;omega⟩
     have hR:R<c.regs.length:=by have:=Am.1 hin;omega
     have HV:Hid (B7 c ⟨op,(R:Int),a,b,cc,n,bits⟩=Bb c.sign c.regs[R]):=by
      show _=_;unfold B7;rw[if_neg h16,if_pos h6];exact F2
     rw[HV.out];obtain⟨p1,q1,rfl,-⟩:=id hat.2.regs;have hat0:=hat;obtain⟨bb,oo,hpp,hcl⟩:=hat.2.regs.at hR;have KW:=A8 (fun(v:World) (h:Below w.heap.size w v)=>Bh C _ _ _ _ c hsl c.regs[R] (hty _ (gD hR)) v (hat0.below h));have c1:w.cell? ⟨C,1,none⟩=some (.slice p1 c.regs.length q1):=hat.1.at 1 rfl;have t0:w.cell? ⟨bb,oo+R*2,none⟩=some (.int .i64 c.regs[R].kind):=hcl.at 0 (v:=.int .i64 c.regs[R].kind) rfl;have t1:w.cell? ⟨bb,oo+R*2+1,none⟩=some (.int .i64 c.regs[R].par):=hcl.at 1 (v:=.int .i64 c.regs[R].par) rfl;have KWW:=A8 (KW.out w.drew (Aa _));obtain⟨TY,hTY⟩:∃t,c.regs[R]=t:=⟨_,rfl⟩
     rw[hTY]at t0 t1 KWW;rw[hTY];obtain⟨RL,hRL⟩:∃n,c.regs.length=n:=⟨_,rfl⟩
     rw[hRL]at c1 hR;have i1:(0:Int)<=(R:Int):=oM;have i2:(R:Int)<(RL:Int):=oM;have HBWW:=A8 (Aa w);subst hpp;clear hin hcl KW hTY HV hd ha hEP hat hat0 hRL hty h5 h6 h16 hE2 hE h29 h30;go_enter func22,ntmps22;go_upto_region 9 with(go_at_call 31;(with_reducible refine(KE.out _).mono ?_);rintro r9 w8 ⟨rfl,hw8⟩;have hw8:=hw8.symm;subst hw8)
     exact KU
    .have q30:(op==30)=false:=by simp[h30]
     by_cases h32:op=32
     .have q32:(op==32)=true:=by simp[h32]
      have h5:EP=true\/op=29\/op=30\/op=32:=.inr (.inr (.inr h32));have h6:(Aw op=true\/op=29\/op=30\/op=32):=by rw[hEP];exact h5
      have hin:=hd h5;obtain⟨R,rfl⟩:∃R:Nat,d=(R:Int):=⟨d.toNat,by have:=Am.1 hin;omega⟩
      have hR:R<c.regs.length:=by have:=Am.1 hin;omega
      have HV:Hid (B7 c ⟨op,(R:Int),a,b,cc,n,bits⟩=Bb c.sign c.regs[R]):=by
       show _=_;unfold B7;rw[if_neg h16,if_pos h6];exact F2
      rw[HV.out];obtain⟨p1,q1,rfl,-⟩:=id hat.2.regs;have hat0:=hat;obtain⟨bb,oo,hpp,hcl⟩:=hat.2.regs.at hR;have KW:=A8 (fun(v:World) (h:Below w.heap.size w v)=>Bh C _ _ _ _ c hsl c.regs[R] (hty _ (gD hR)) v (hat0.below h));have c1:w.cell? ⟨C,1,none⟩=some (.slice p1 c.regs.length q1):=hat.1.at 1 rfl;have t0:w.cell? ⟨bb,oo+R*2,none⟩=some (.int .i64 c.regs[R].kind):=hcl.at 0 (v:=.int .i64 c.regs[R].kind) rfl;have t1:w.cell? ⟨bb,oo+R*2+1,none⟩=some (.int .i64 c.regs[R].par):=hcl.at 1 (v:=.int .i64 c.regs[R].par) rfl;have KWW:=A8 (KW.out w.drew (Aa _));obtain⟨TY,hTY⟩:∃t,c.regs[R]=t:=⟨_,rfl⟩
      rw[hTY]at t0 t1 KWW;rw[hTY];obtain⟨RL,hRL⟩:∃n,c.regs.length=n:=⟨_,rfl⟩
      rw[hRL]at c1 hR;have i1:(0:Int)<=(R:Int):=oM;have i2:(R:Int)<(RL:Int):=oM;have HBWW:=A8 (Aa w);subst hpp;clear hin hcl KW hTY HV hd ha hEP hat hat0 hRL hty h5 h6 h16 hE2 hE h29 h30 h32;go_enter func22,ntmps22;go_upto_region 9 with(go_at_call 31;(with_reducible refine(KE.out _).mono ?_);rintro r9 w8 ⟨rfl,hw8⟩;have hw8:=hw8.symm;subst hw8)
      exact KU
     .have q32:(op==32)=false:=by simp[h32]
      by_cases h31:op=31
      .have q31:(op==31)=true:=by simp[h31]
       have h6:¬ (Aw op=true\/op=29\/op=30\/op=32):=by rw[hEP,hE2];simp[h29,h30,h32]
       have h5:op=31\/op=33\/op=19\/op=20:=.inl h31;have hin:=ha h5;obtain⟨R,rfl⟩:∃R:Nat,a=(R:Int):=⟨a.toNat,by have:=Am.1 hin;omega⟩
       have hR:R<c.regs.length:=by have:=Am.1 hin;omega
       have HV:Hid (B7 c ⟨op,d,(R:Int),b,cc,n,bits⟩=Bb c.sign c.regs[R]):=by
        show _=_;unfold B7;rw[if_neg h16,if_neg h6,if_pos h5];exact F2
       rw[HV.out];obtain⟨p1,q1,rfl,-⟩:=id hat.2.regs;have hat0:=hat;obtain⟨bb,oo,hpp,hcl⟩:=hat.2.regs.at hR;have KW:=A8 (fun(v:World) (h:Below w.heap.size w v)=>Bh C _ _ _ _ c hsl c.regs[R] (hty _ (gD hR)) v (hat0.below h));have c1:w.cell? ⟨C,1,none⟩=some (.slice p1 c.regs.length q1):=hat.1.at 1 rfl;have t0:w.cell? ⟨bb,oo+R*2,none⟩=some (.int .i64 c.regs[R].kind):=hcl.at 0 (v:=.int .i64 c.regs[R].kind) rfl;have t1:w.cell? ⟨bb,oo+R*2+1,none⟩=some (.int .i64 c.regs[R].par):=hcl.at 1 (v:=.int .i64 c.regs[R].par) rfl;have KWW:=A8 (KW.out w.drew (Aa _));obtain⟨TY,hTY⟩:∃t,c.regs[R]=t:=⟨_,rfl⟩
       rw[hTY]at t0 t1 KWW;rw[hTY];obtain⟨RL,hRL⟩:∃n,c.regs.length=n:=⟨_,rfl⟩
       rw[hRL]at c1 hR;have i1:(0:Int)<=(R:Int):=oM;have i2:(R:Int)<(RL:Int):=oM;have HBWW:=A8 (Aa w);subst hpp;clear hin hcl KW hTY HV hd ha hEP hat hat0 hRL hty h5 h6 h16 hE2 hE h29 h30 h32 h31;exact KP
      .have q31:(op==31)=false:=by simp[h31]
       by_cases h33:op=33
       .have q33:(op==33)=true:=by simp[h33]
        have h6:¬ (Aw op=true\/op=29\/op=30\/op=32):=by rw[hEP,hE2];simp[h29,h30,h32]
        have h5:op=31\/op=33\/op=19\/op=20:=.inr (.inl h33);have hin:=ha h5;obtain⟨R,rfl⟩:∃R:Nat,a=(R:Int):=⟨a.toNat,by have:=Am.1 hin;omega⟩
        have hR:R<c.regs.length:=by have:=Am.1 hin;omega
        have HV:Hid (B7 c ⟨op,d,(R:Int),b,cc,n,bits⟩=Bb c.sign c.regs[R]):=by
         show _=_;unfold B7;rw[if_neg h16,if_neg h6,if_pos h5];exact F2
        rw[HV.out];obtain⟨p1,q1,rfl,-⟩:=id hat.2.regs;have hat0:=hat;obtain⟨bb,oo,hpp,hcl⟩:=hat.2.regs.at hR;have KW:=A8 (fun(v:World) (h:Below w.heap.size w v)=>Bh C _ _ _ _ c hsl c.regs[R] (hty _ (gD hR)) v (hat0.below h));have c1:w.cell? ⟨C,1,none⟩=some (.slice p1 c.regs.length q1):=hat.1.at 1 rfl;have t0:w.cell? ⟨bb,oo+R*2,none⟩=some (.int .i64 c.regs[R].kind):=hcl.at 0 (v:=.int .i64 c.regs[R].kind) rfl;have t1:w.cell? ⟨bb,oo+R*2+1,none⟩=some (.int .i64 c.regs[R].par):=hcl.at 1 (v:=.int .i64 c.regs[R].par) rfl;have KWW:=A8 (KW.out w.drew (Aa _));obtain⟨TY,hTY⟩:∃t,c.regs[R]=t:=⟨_,rfl⟩
        rw[hTY]at t0 t1 KWW;rw[hTY];obtain⟨RL,hRL⟩:∃n,c.regs.length=n:=⟨_,rfl⟩
        rw[hRL]at c1 hR;have i1:(0:Int)<=(R:Int):=oM;have i2:(R:Int)<(RL:Int):=oM;have HBWW:=A8 (Aa w);subst hpp;clear hin hcl KW hTY HV hd ha hEP hat hat0 hRL hty h5 h6 h16 hE2 hE h29 h30 h32 h31 h33;exact KP
       .have q33:(op==33)=false:=by simp[h33]
        by_cases h19:op=19
        .have q19:(op==19)=true:=by simp[h19]
         have h6:¬ (Aw op=true\/op=29\/op=30\/op=32):=by rw[hEP,hE2];simp[h29,h30,h32]
         have h5:op=31\/op=33\/op=19\/op=20:=.inr (.inr (.inl h19));have hin:=ha h5;obtain⟨R,rfl⟩:∃R:Nat,a=(R:Int):=⟨a.toNat,by have:=Am.1 hin;omega⟩
         have hR:R<c.regs.length:=by have:=Am.1 hin;omega
         have HV:Hid (B7 c ⟨op,d,(R:Int),b,cc,n,bits⟩=Bb c.sign c.regs[R]):=by
          show _=_;unfold B7;rw[if_neg h16,if_neg h6,if_pos h5];exact F2
         rw[HV.out];obtain⟨p1,q1,rfl,-⟩:=id hat.2.regs;have hat0:=hat;obtain⟨bb,oo,hpp,hcl⟩:=hat.2.regs.at hR;have KW:=A8 (fun(v:World) (h:Below w.heap.size w v)=>Bh C _ _ _ _ c hsl c.regs[R] (hty _ (gD hR)) v (hat0.below h));have c1:w.cell? ⟨C,1,none⟩=some (.slice p1 c.regs.length q1):=hat.1.at 1 rfl;have t0:w.cell? ⟨bb,oo+R*2,none⟩=some (.int .i64 c.regs[R].kind):=hcl.at 0 (v:=.int .i64 c.regs[R].kind) rfl;have t1:w.cell? ⟨bb,oo+R*2+1,none⟩=some (.int .i64 c.regs[R].par):=hcl.at 1 (v:=.int .i64 c.regs[R].par) rfl;have KWW:=A8 (KW.out w.drew (Aa _));obtain⟨TY,hTY⟩:∃t,c.regs[R]=t:=⟨_,rfl⟩
         rw[hTY]at t0 t1 KWW;rw[hTY];obtain⟨RL,hRL⟩:∃n,c.regs.length=n:=⟨_,rfl⟩
         rw[hRL]at c1 hR;have i1:(0:Int)<=(R:Int):=oM;have i2:(R:Int)<(RL:Int):=oM;have HBWW:=A8 (Aa w);subst hpp;clear hin hcl KW hTY HV hd ha hEP hat hat0 hRL hty h5 h6 h16 hE2 hE h29 h30 h32 h31 h33 h19;exact KP
        .have q19:(op==19)=false:=by simp[h19]
         by_cases h20:op=20
         .have q20:(op==20)=true:=by simp[h20]
          have h6:¬ (Aw op=true\/op=29\/op=30\/op=32):=by rw[hEP,hE2];simp[h29,h30,h32]
          have h5:op=31\/op=33\/op=19\/op=20:=.inr (.inr (.inr h20));have hin:=ha h5;obtain⟨R,rfl⟩:∃R:Nat,a=(R:Int):=⟨a.toNat,by have:=Am.1 hin;omega⟩
          have hR:R<c.regs.length:=by have:=Am.1 hin;omega
          have HV:Hid (B7 c ⟨op,d,(R:Int),b,cc,n,bits⟩=Bb c.sign c.regs[R]):=by
           show _=_;unfold B7;rw[if_neg h16,if_neg h6,if_pos h5];exact F2
          rw[HV.out];obtain⟨p1,q1,rfl,-⟩:=id hat.2.regs;have hat0:=hat;obtain⟨bb,oo,hpp,hcl⟩:=hat.2.regs.at hR;have KW:=A8 (fun(v:World) (h:Below w.heap.size w v)=>Bh C _ _ _ _ c hsl c.regs[R] (hty _ (gD hR)) v (hat0.below h));have c1:w.cell? ⟨C,1,none⟩=some (.slice p1 c.regs.length q1):=hat.1.at 1 rfl;have t0:w.cell? ⟨bb,oo+R*2,none⟩=some (.int .i64 c.regs[R].kind):=hcl.at 0 (v:=.int .i64 c.regs[R].kind) rfl;have t1:w.cell? ⟨bb,oo+R*2+1,none⟩=some (.int .i64 c.regs[R].par):=hcl.at 1 (v:=.int .i64 c.regs[R].par) rfl;have KWW:=A8 (KW.out w.drew (Aa _));obtain⟨TY,hTY⟩:∃t,c.regs[R]=t:=⟨_,rfl⟩
          rw[hTY]at t0 t1 KWW;rw[hTY];obtain⟨RL,hRL⟩:∃n,c.regs.length=n:=⟨_,rfl⟩
          rw[hRL]at c1 hR;have i1:(0:Int)<=(R:Int):=oM;have i2:(R:Int)<(RL:Int):=oM;have HBWW:=A8 (Aa w);subst hpp;clear hin hcl KW hTY HV hd ha hEP hat hat0 hRL hty h5 h6 h16 hE2 hE h29 h30 h32 h31 h33 h19 h20;exact KP
         .have q20:(op==20)=false:=by simp[h20]
          have h6:¬ (Aw op=true\/op=29\/op=30\/op=32):=by rw[hEP,hE2];simp[h29,h30,h32]
          have h7:¬ (op=31\/op=33\/op=19\/op=20):=by simp[h31,h33,h19,h20]
          have HV:Hid (B7 c ⟨op,d,a,b,cc,n,bits⟩=1):=by show _=_;unfold B7;rw[if_neg h16,if_neg h6,if_neg h7]
          rw[HV.out];clear hd ha hEP hat h6 h7 h16 hE2 hE h29 h30 h32 h31 h33 h19 h20 hty;exact Mf
theorem DP{c:Cd}(hc:(Ai c).1=0):∀t∈c.regs,t.kind=3->Ae t.par c.sign.length=true:=fun t ht h3=>by
 have h:=List.all_eq_true.1 (Cb.1 (AY.1 hc).1).types t ht;unfold An at h;rw[if_neg oM,if_pos h3]at h;exact h
theorem IQ{c:Cd}(hc:(Ai c).1=0):∀s∈c.slots,s.ty.kind=3->Ae s.ty.par c.sign.length=true:=fun s hs h3=>by
 have h:=List.all_eq_true.1 (Cb.1 (AY.1 hc).1).begun s hs;unfold AE at h;simp only[Bool.and_eq_true]at h;have h:=h.1;unfold An at h;rw[if_neg oM,if_pos h3]at h;exact h
theorem Dm(C:Nat)(v0 v1 v2 v3:Value)(c:Cd)(hc:(Ai c).1=0)(w:World)(hat:AM w C v0 v1 v2 v3 c):
 Calls prog 20 #[.pointer (some ⟨C,0,none⟩)] w fun e w'=>e=.returned (.int .i64 (BK c))/\Below w.heap.size w w':=by
 have HSL:=A8 (Ci hc).1;have HLL:=A8 (Ci hc).2;have HE:=A8 hc;have HTY:=A8 (DP hc);obtain⟨p3,q3,rfl,-⟩:=id hat.2.list;have HAT:=A8 hat;have c3:w.cell? ⟨C,3,none⟩=some (.slice p3 c.list.length q3):=hat.1.at 3 rfl;have HC3:=A8 c3;obtain⟨L,hL⟩:∃n,c.list.length=n:=⟨_,rfl⟩
 rw[hL]at c3;have HL:=A8 hL;have HJ0:Hid (Below w.heap.size w w):=Below.refl _ _;clear hat hL hc;go_enter func20,ntmps20;go_upto_block 0 with fail;go_wp2_with fail
 go_loopw [3,10] (fun nv iv wx=>∃k:Nat,k<=L/\iv=.int .i64 (k:Int)/\nv=.int .i64 (B0 c (c.list.take k))/\Hid (Below w.heap.size w wx)) (fun _ iv _=>L-(intOf iv).toNat)
 case atStart=>exact⟨0,gI _,rfl,rfl,HJ0.out⟩
 case round=>
  clear c3;obtain⟨k,hkk,rfl,rfl,HBW⟩:=hrel;have c3:=kc HBW.out HC3.out;rw[HL.out]at c3;by_cases hlt:k<L
  .have e1:(k:Int)<(L:Int):=oM;have hkl:k<c.list.length:=by rw[HL.out];exact hlt
   have HS1:=A8 (EA (c:=c) hkl);obtain⟨hb1,hb2⟩:=DN HE.out c.list[k] (gD hkl);obtain⟨hs1,hs2⟩:=Gx HE.out k;obtain⟨hd,ha⟩:=Gy HE.out c.list[k] (gD hkl);obtain⟨bb,oo,hpp,hcl⟩:=HAT.2.list.at hkl;have KW:=A8 (DR C bb (oo+k*7) _ _ _ _ c HSL.out c.list[k] hd ha HTY.out wr (HAT.below HBW.out) (hcl.below HBW.out));obtain⟨WG,hWG⟩:∃g,B7 c c.list[k]=g:=⟨_,rfl⟩
   rw[hWG]at KW HS1 hb1 hb2;obtain⟨SM,hSM⟩:∃g,B0 c (c.list.take k)=g:=⟨_,rfl⟩
   rw[hSM]at HS1 hs1 hs2;rw[hSM];have hkL:L<=32768:=by have:=HLL.out;have:=HL.out;omega
   have wS:IntKind.i64.wrap (SM+WG)=SM+WG:=by rw[IntKind.wrap_i64];omega
   have wk:IntKind.i64.wrap ((k:Int)+1)=((k+1:Nat):Int):=by rw[IntKind.wrap_i64];omega
   have i1:(0:Int)<=(k:Int):=oM;have hk1:k+1<=L:=hlt;subst hpp;clear hkl hb1 hb2 hs1 hs2 hd ha hcl hWG hSM hkL;go_wp2_with(go_at_call 22;(with_reducible refine KW.out.mono ?_);rintro r9 w8 ⟨rfl,hb8⟩;have HB8:=A8 (HBW.out.trans (hb8.mono HBW.out.size));clear hb8);go_roundw
   case rel=>exact⟨k+1,hk1,gN,by rw[HS1.out],HB8⟩
   case measure=>simp[intOf];omega
  .have e1:¬ (k:Int)<(L:Int):=oM;have hkl:c.list.take k=c.list:=List.take_of_length_le (by rw[HL.out];omega);have HF:Hid (B0 c (c.list.take k)=BK c):=by show _=_;rw[hkl];rfl
   clear hkl hlt;go_wp2_with fail;refine bodyPost_ret (by simp[results,results20,go_sem, *];try rfl) rfl ?_;exact⟨by rw[HF.out],HBW.out⟩
theorem Dn(C:Nat)(v0 v1 v2 v3:Value)(c:Cd)(hc:(Ai c).1=0)(w:World)(hat:AM w C v0 v1 v2 v3 c):
 Calls prog 21 #[.pointer (some ⟨C,0,none⟩)] w fun e w'=>e=.returned (.int .i64 (BB c))/\Below w.heap.size w w':=by
 have HSL:=A8 (Ci hc).1;have HE:=A8 hc;have HAH:=A8 (Cb.1 (AY.1 hc).1);have HTY:=A8 (DP hc);have HTS:=A8 (IQ hc);obtain⟨p1,q1,rfl,-⟩:=id hat.2.regs;obtain⟨p2,q2,rfl,-⟩:=id hat.2.slots;have HAT:=A8 hat;have c1:w.cell? ⟨C,1,none⟩=some (.slice p1 c.regs.length q1):=hat.1.at 1 rfl;have c2:w.cell? ⟨C,2,none⟩=some (.slice p2 c.slots.length q2):=hat.1.at 2 rfl;have HC2:=A8 c2;obtain⟨L1,hL1⟩:∃n,c.regs.length=n:=⟨_,rfl⟩
 obtain⟨L2,hL2⟩:∃n,c.slots.length=n:=⟨_,rfl⟩
 rw[hL1]at c1;have HL1:=A8 hL1;have HL2:=A8 hL2;have HJ0:Hid (Below w.heap.size w w):=Below.refl _ _;clear hat hL1 hL2 hc c2;go_enter func21,ntmps21;go_upto_block 0 with fail;go_cut [3] (fun nv wx=>nv=.int .i64 (AU c.sign c.regs)/\Hid (Below w.heap.size w wx))
 case first=>
  go_wp2_with fail
  go_loopw [3,13] (fun nv iv wx=>∃k:Nat,k<=L1/\iv=.int .i64 (k:Int)/\nv=.int .i64 (AU c.sign (c.regs.take k))/\Hid (Below w.heap.size w wx)) (fun _ iv _=>L1-(intOf iv).toNat)
  case atStart=>exact⟨0,gI _,rfl,rfl,HJ0.out⟩
  case round=>
   clear c1;obtain⟨k,hkk,rfl,rfl,HBW⟩:=hrel;by_cases hlt:k<L1
   .have e1:(k:Int)<(L1:Int):=oM;have hkl:k<c.regs.length:=by rw[HL1.out];exact hlt
    have HS1:=A8 (Du (ps:=c.sign) hkl);obtain⟨hb1,hb2⟩:=Ck HE.out _ (gD hkl);obtain⟨hs2,hs3⟩:=D9 (k:=k) (n:=16384) (Ck HE.out) HAH.regs;obtain⟨bb,oo,hpp,hcl⟩:=HAT.2.regs.at hkl;have t0:wr.cell? ⟨bb,oo+k*2,none⟩=some (.int .i64 c.regs[k].kind):=kc HBW.out (hcl.at 0 (v:=.int .i64 c.regs[k].kind) rfl);have t1:wr.cell? ⟨bb,oo+k*2+1,none⟩=some (.int .i64 c.regs[k].par):=kc HBW.out (hcl.at 1 (v:=.int .i64 c.regs[k].par) rfl);have KW:=A8 (fun(v:World) (h:Below w.heap.size w v)=>Bh C _ _ _ _ c HSL.out c.regs[k] (HTY.out _ (gD hkl)) v (HAT.below h));obtain⟨TY,hTY⟩:∃t,c.regs[k]=t:=⟨_,rfl⟩
    rw[hTY]at HS1 hb1 hb2 t0 t1 KW;obtain⟨WG,hWG⟩:∃g,Bb c.sign TY=g:=⟨_,rfl⟩
    rw[hWG]at HS1 hb1 hb2 KW;obtain⟨SM,hSM⟩:∃g,AU c.sign (c.regs.take k)=g:=⟨_,rfl⟩
    rw[hSM]at HS1 hs2 hs3;rw[hSM];have wk:IntKind.i64.wrap ((k:Int)+1)=((k+1:Nat):Int):=by have:=HAH.regs;have:=HL1.out;rw[IntKind.wrap_i64];omega
    have wS:IntKind.i64.wrap (SM+WG)=SM+WG:=by rw[IntKind.wrap_i64];omega
    have i1:(0:Int)<=(k:Int):=oM;have hk1:k+1<=L1:=hlt;obtain⟨W1,hW1⟩:∃W,wr.alloc (.cells #[.int .i64 TY.kind,.int .i64 TY.par] 47)=W:=⟨_,rfl⟩
    have n0:W1.cell? ⟨wr.heap.size,0,none⟩=some (.int .i64 TY.kind):=by rw[<-hW1];simp[go_sem]
    have n1:W1.cell? ⟨wr.heap.size,1,none⟩=some (.int .i64 TY.par):=by rw[<-hW1];simp[go_sem]
    have hbW1:Below wr.heap.size wr W1:=by rw[<-hW1];exact A0 _ _
    have HBW1:=A8 (HBW.trans (hbW1.mono HBW.size));have KWW:=A8 (KW.out W1 HBW1.out);subst hpp;clear hkl hb1 hb2 hs2 hs3 hcl hTY hWG hSM KW hbW1;go_upto_region 5 with fail;try rw[hW1]
    clear hW1 t0 t1;go_wp2_with(go_at_call 30;(with_reducible refine KWW.out.mono ?_);rintro r9 w8 ⟨rfl,hb8⟩;have HB8:=A8 (HBW1.out.trans (hb8.mono HBW1.out.size));clear hb8);go_roundw
    case rel=>exact⟨k+1,hk1,gN,by rw[HS1.out],HB8⟩
    case measure=>simp[intOf];omega
   .have e1:¬ (k:Int)<(L1:Int):=oM;have hkl:c.regs.take k=c.regs:=List.take_of_length_le (by rw[HL1.out];omega);have HF:Hid (AU c.sign (c.regs.take k)=AU c.sign c.regs):=by show _=_;rw[hkl]
    clear hkl hlt;go_wp2_with fail;go_meet;exact⟨by rw[HF.out],HBW⟩
 case rest=>
  clear c1;obtain⟨rfl,HBX⟩:=hcut;rename World=>wx;obtain⟨RR,hRR⟩:∃r,AU c.sign c.regs=r:=⟨_,rfl⟩
  rw[hRR];have HRR:=A8 hRR;clear hRR;have c2:=kc HBX.out HC2.out;rw[HL2.out]at c2;go_upto_block 2 with fail;go_wp2_with fail
  go_loopw [3,28] (fun nv iv wy=>∃k:Nat,k<=L2/\iv=.int .i64 (k:Int)/\nv=.int .i64 (RR+AU c.sign ((c.slots.map fun s=>s.ty).take k))/\Hid (Below w.heap.size w wy)) (fun _ iv _=>L2-(intOf iv).toNat)
  case atStart=>exact⟨0,gI _,rfl,by simp[AU],HBX.out⟩
  case round=>
   clear c2;obtain⟨k,hkk,rfl,rfl,HBW⟩:=hrel;by_cases hlt:k<L2
   .have e1:(k:Int)<(L2:Int):=oM;have hkl:k<c.slots.length:=by rw[HL2.out];exact hlt
    have hkm:k<(c.slots.map fun s=>s.ty).length:=by rw[List.length_map];exact hkl
    have hat:(c.slots.map fun s=>s.ty)[k]=c.slots[k].ty:=sM;have hs1:=Du (ps:=c.sign) hkm;rw[hat]at hs1;have HS1:=A8 hs1;obtain⟨hb1,hb2⟩:=Dd HE.out _ (gD hkm);rw[hat]at hb1 hb2;obtain⟨hs2,hs3⟩:=D9 (k:=k) (n:=16384) (Dd HE.out) (by rw[List.length_map];have:=HAH.slots;omega);obtain⟨hr1,hr2⟩:=D9 (ps:=c.sign) (l:=c.regs) (k:=c.regs.length) (n:=16384) (Ck HE.out) HAH.regs;rw[List.take_length,HRR.out]at hr1 hr2;obtain⟨bb,oo,hpp,hcl⟩:=HAT.2.slots.at hkl;have t0:wr.cell? ⟨bb,oo+k*5,none⟩=some (.int .i64 c.slots[k].ty.kind):=kc HBW.out (hcl.at 0 (v:=.int .i64 c.slots[k].ty.kind) rfl);have t1:wr.cell? ⟨bb,oo+k*5+1,none⟩=some (.int .i64 c.slots[k].ty.par):=kc HBW.out (hcl.at 1 (v:=.int .i64 c.slots[k].ty.par) rfl);have t2:wr.cell? ⟨bb,oo+k*5+2,none⟩=some (.bool c.slots[k].keep):=kc HBW.out (hcl.at 2 (v:=.bool c.slots[k].keep) rfl);have t3:wr.cell? ⟨bb,oo+k*5+3,none⟩=some (.int .u32 c.slots[k].bits):=kc HBW.out (hcl.at 3 (v:=.int .u32 c.slots[k].bits) rfl);have t4:wr.cell? ⟨bb,oo+k*5+4,none⟩=some (.int .i64 c.slots[k].int_):=kc HBW.out (hcl.at 4 (v:=.int .i64 c.slots[k].int_) rfl);have KW:=A8 (fun(v:World) (h:Below w.heap.size w v)=>Bh C _ _ _ _ c HSL.out c.slots[k].ty (HTS.out _ (gD hkl)) v (HAT.below h));obtain⟨⟨TY,kp,sb,si⟩,hTY⟩:∃t,c.slots[k]=t:=⟨_,rfl⟩
    rw[hTY]at HS1 hb1 hb2 t0 t1 t2 t3 t4 KW;obtain⟨tk,tp⟩:=TY;simp only at HS1 hb1 hb2 t0 t1 t2 t3 t4 KW;obtain⟨WG,hWG⟩:∃g,Bb c.sign ⟨tk,tp⟩=g:=⟨_,rfl⟩
    rw[hWG]at HS1 hb1 hb2 KW;obtain⟨SM,hSM⟩:∃g,AU c.sign ((c.slots.map fun s=>s.ty).take k)=g:=⟨_,rfl⟩
    rw[hSM]at HS1 hs2 hs3;rw[hSM];have wk:IntKind.i64.wrap ((k:Int)+1)=((k+1:Nat):Int):=by have:=HAH.slots;have:=HL2.out;rw[IntKind.wrap_i64];omega
    have wS:IntKind.i64.wrap (RR+SM+WG)=RR+SM+WG:=by rw[IntKind.wrap_i64];omega
    have i1:(0:Int)<=(k:Int):=oM;have hk1:k+1<=L2:=hlt;obtain⟨W1,hW1⟩:∃W,wr.alloc (.cells #[.int .i64 tk,.int .i64 tp,.bool kp,.int .u32 sb,.int .i64 si] 51)=W:=⟨_,rfl⟩
    have n0:W1.cell? ⟨wr.heap.size,0,none⟩=some (.int .i64 tk):=by rw[<-hW1];simp[go_sem]
    have n1:W1.cell? ⟨wr.heap.size,1,none⟩=some (.int .i64 tp):=by rw[<-hW1];simp[go_sem]
    have hbW1:Below wr.heap.size wr W1:=by rw[<-hW1];exact A0 _ _
    have HBW1:=A8 (HBW.trans (hbW1.mono HBW.size));have KWW:=A8 (KW.out W1 HBW1.out);subst hpp;clear hkl hkm hat hs1 hb1 hb2 hs2 hs3 hr1 hr2 hcl hTY hWG hSM KW hbW1;go_upto_region 10 with fail;try rw[hW1]
    clear hW1 t0 t1 t2 t3 t4;go_wp2_with(go_at_call 30;(with_reducible refine KWW.out.mono ?_);rintro r9 w8 ⟨rfl,hb8⟩;have HB8:=A8 (HBW1.out.trans (hb8.mono HBW1.out.size));clear hb8);go_roundw
    case rel=>exact⟨k+1,hk1,gN,by rw[HS1.out];congr 1;omega,HB8⟩
    case measure=>simp[intOf];omega
   .have e1:¬ (k:Int)<(L2:Int):=oM;have hkl:(c.slots.map fun s=>s.ty).take k=(c.slots.map fun s=>s.ty):=List.take_of_length_le (by rw[List.length_map,HL2.out];omega);have HF:Hid (RR+AU c.sign ((c.slots.map fun s=>s.ty).take k)=BB c):=by show _=_;rw[hkl,E8,HRR.out]
    clear hkl hlt;go_wp2_with fail;refine bodyPost_ret (by simp[results,results21,go_sem, *];try rfl) rfl ?_;exact⟨by rw[HF.out],HBW.out⟩
theorem Ec(v0 v1 v2 v3:Value)(c:Cd)(hk:AJ c)(w:World)(hv:Bt w v0 v1 v2 v3 c):
 Calls prog 8 #[.agg #[v0,v1,v2,v3]] w fun e w'=>e=.returned (.tuple #[.int .i64 (if(Ai c).1=0 then BK c else 0),.int .i64 (Ai c).1])/\Below w.heap.size w w':=by
 obtain⟨CV,hCV⟩:∃v,(if(Ai c).1=0 then BK c else 0)=v:=⟨_,rfl⟩
 rw[hCV];obtain⟨E,hE⟩:∃e,(Ai c).1=e:=⟨_,rfl⟩
 have HE:=A8 hE;rw[hE]at hCV |-;have HCV:=A8 hCV;clear hCV;obtain⟨X,hX⟩:=gA (w.heap.size)
 obtain⟨W0,hW0⟩:∃W,w.alloc (.cells #[v0,v1,v2,v3] 27)=W:=⟨_,rfl⟩
 have hb0:Below w.heap.size w W0:=by rw[<-hW0];exact A0 _ _
 have x0:W0.cell? ⟨X,0,none⟩=some v0:=by rw[<-hW0,<-hX];simp[go_sem]
 have x1:W0.cell? ⟨X,1,none⟩=some v1:=by rw[<-hW0,<-hX];simp[go_sem]
 have x2:W0.cell? ⟨X,2,none⟩=some v2:=by rw[<-hW0,<-hX];simp[go_sem]
 have x3:W0.cell? ⟨X,3,none⟩=some v3:=by rw[<-hW0,<-hX];simp[go_sem]
 have HAT:Hid (AM W0 X v0 v1 v2 v3 c):=by
  exact L7
 have KC:=A8 (Cn v0 v1 v2 v3 c hk W0 (hv.below hb0));rw[hE]at KC;have HB0:=A8 hb0;have HW0:=A8 hW0;clear hv hb0 hE hk hW0;go_enter func8,ntmps8;go_upto_region 1 with fail;try rw[HW0.out]
 try rw[hX]
 clear hX;go_upto_region 2 with(go_at_call 19;(with_reducible refine KC.out.mono ?_);rintro e9 w4 ⟨rfl,hb4⟩;have HB4:=A8 hb4;clear hb4)
 have HB:=A8 (bel HB0.out HB4.out);clear x0 x1 x2 x3 KC;by_cases h0:E=0
 .subst h0;have KO:=A8 (Dm X _ _ _ _ c HE.out w4 (HAT.below HB4.out));have HV:Hid (CV=BK c):=by show _=_;rw[<-HCV.out,if_pos rfl]
  go_wp2_with(go_at_call 20;(with_reducible refine KO.out.mono ?_);rintro e9 w5 ⟨rfl,hb5⟩;have HB5:=A8 (bel HB.out hb5);clear hb5);refine bodyPost_ret (by simp[results,results8,go_sem, *];try rfl) rfl ?_;exact⟨by rw[HV.out],HB5.out⟩
 .have q1:(E==0)=false:=beq_eq_false_iff_ne.2 h0;have q2:(E != 0)=true:=by simp[h0]
  have HV:Hid (CV=0):=by show _=_;rw[<-HCV.out,if_neg h0]
  have H0:=A8 h0;clear h0;go_wp2_with fail;refine bodyPost_ret (by simp[results,results8,go_sem, *];try rfl) rfl ?_;exact⟨by rw[HV.out],HB.out⟩
theorem Ed(v0 v1 v2 v3:Value)(c:Cd)(hk:AJ c)(w:World)(hv:Bt w v0 v1 v2 v3 c):
 Calls prog 9 #[.agg #[v0,v1,v2,v3]] w fun e w'=>e=.returned (.tuple #[.int .i64 (if(Ai c).1=0 then BB c else 0),.int .i64 (Ai c).1])/\Below w.heap.size w w':=by
 obtain⟨CV,hCV⟩:∃v,(if(Ai c).1=0 then BB c else 0)=v:=⟨_,rfl⟩
 rw[hCV];obtain⟨E,hE⟩:∃e,(Ai c).1=e:=⟨_,rfl⟩
 have HE:=A8 hE;rw[hE]at hCV |-;have HCV:=A8 hCV;clear hCV;obtain⟨X,hX⟩:=gA (w.heap.size)
 obtain⟨W0,hW0⟩:∃W,w.alloc (.cells #[v0,v1,v2,v3] 27)=W:=⟨_,rfl⟩
 have hb0:Below w.heap.size w W0:=by rw[<-hW0];exact A0 _ _
 have x0:W0.cell? ⟨X,0,none⟩=some v0:=by rw[<-hW0,<-hX];simp[go_sem]
 have x1:W0.cell? ⟨X,1,none⟩=some v1:=by rw[<-hW0,<-hX];simp[go_sem]
 have x2:W0.cell? ⟨X,2,none⟩=some v2:=by rw[<-hW0,<-hX];simp[go_sem]
 have x3:W0.cell? ⟨X,3,none⟩=some v3:=by rw[<-hW0,<-hX];simp[go_sem]
 have HAT:Hid (AM W0 X v0 v1 v2 v3 c):=by
  exact L7
 have KC:=A8 (Cn v0 v1 v2 v3 c hk W0 (hv.below hb0));rw[hE]at KC;have HB0:=A8 hb0;have HW0:=A8 hW0;clear hv hb0 hE hk hW0;go_enter func9,ntmps9;go_upto_region 1 with fail;try rw[HW0.out]
 try rw[hX]
 clear hX;go_upto_region 2 with(go_at_call 19;(with_reducible refine KC.out.mono ?_);rintro e9 w4 ⟨rfl,hb4⟩;have HB4:=A8 hb4;clear hb4)
 have HB:=A8 (bel HB0.out HB4.out);clear x0 x1 x2 x3 KC;by_cases h0:E=0
 .subst h0;have KO:=A8 (Dn X _ _ _ _ c HE.out w4 (HAT.below HB4.out));have HV:Hid (CV=BB c):=by show _=_;rw[<-HCV.out,if_pos rfl]
  go_wp2_with(go_at_call 21;(with_reducible refine KO.out.mono ?_);rintro e9 w5 ⟨rfl,hb5⟩;have HB5:=A8 (bel HB.out hb5);clear hb5);refine bodyPost_ret (by simp[results,results9,go_sem, *];try rfl) rfl ?_;exact⟨by rw[HV.out],HB5.out⟩
 .have q1:(E==0)=false:=beq_eq_false_iff_ne.2 h0;have q2:(E != 0)=true:=by simp[h0]
  have HV:Hid (CV=0):=by show _=_;rw[<-HCV.out,if_neg h0]
  have H0:=A8 h0;clear h0;go_wp2_with fail;refine bodyPost_ret (by simp[results,results9,go_sem, *];try rfl) rfl ?_;exact⟨by rw[HV.out],HB.out⟩
theorem DQ(v0 v1 v2 v3:Value)(c:Cd)(hk:AJ c)(w:World)(hv:Bt w v0 v1 v2 v3 c):
 Calls prog 16 #[.agg #[v0,v1,v2,v3]] w fun e w'=>e=.returned (.int .i64 (Cy c))/\Below w.heap.size w w':=by
 obtain⟨CV,hCV⟩:∃v,Cy c=v:=⟨_,rfl⟩
 rw[hCV];have HCV:=A8 hCV;clear hCV;obtain⟨E,hE⟩:∃e,(Ai c).1=e:=⟨_,rfl⟩
 have HE:=A8 hE;obtain⟨X,hX⟩:=gA (w.heap.size)
 obtain⟨W0,hW0⟩:∃W,w.alloc (.cells #[v0,v1,v2,v3] 27)=W:=⟨_,rfl⟩
 have hb0:Below w.heap.size w W0:=by rw[<-hW0];exact A0 _ _
 have x0:W0.cell? ⟨X,0,none⟩=some v0:=by rw[<-hW0,<-hX];simp[go_sem]
 have x1:W0.cell? ⟨X,1,none⟩=some v1:=by rw[<-hW0,<-hX];simp[go_sem]
 have x2:W0.cell? ⟨X,2,none⟩=some v2:=by rw[<-hW0,<-hX];simp[go_sem]
 have x3:W0.cell? ⟨X,3,none⟩=some v3:=by rw[<-hW0,<-hX];simp[go_sem]
 have HAT:Hid (AM W0 X v0 v1 v2 v3 c):=by
  exact L7
 have KC:=A8 (Cn v0 v1 v2 v3 c hk W0 (hv.below hb0));rw[hE]at KC;have HB0:=A8 hb0;have HW0:=A8 hW0;clear hv hb0 hE hk hW0;go_enter func16,ntmps16;go_upto_region 1 with fail;try rw[HW0.out]
 try rw[hX]
 clear hX;go_upto_region 2 with(go_at_call 19;(with_reducible refine KC.out.mono ?_);rintro e9 w4 ⟨rfl,hb4⟩;have HB4:=A8 hb4;clear hb4)
 have HB:=A8 (bel HB0.out HB4.out);clear x0 x1 x2 x3 KC;by_cases h0:E=0
 .subst h0;have HV:Hid (Cy c=if 16777216<BB c then 261 else if 4294967296<BK c then 260 else 0):=by show _=_;unfold Cy;rw[if_neg Km]
  obtain⟨RV,hRV⟩:∃r,BB c=r:=⟨_,rfl⟩
  obtain⟨CO,hCV⟩:∃r,BK c=r:=⟨_,rfl⟩
  have KR:=A8 (Dn X _ _ _ _ c HE.out w4 (HAT.below HB4.out));have KO:=A8 (fun(v:World) (h:Below w4.heap.size w4 v)=>Dm X _ _ _ _ c HE.out v ((HAT.below HB4.out).below h));have KJ:=A8 (fun v=>FM RV CO v);rw[hRV]at KR HV;rw[hCV]at KO HV;obtain⟨JV,hJV⟩:∃r,(if 16777216<RV then 261 else if 4294967296<CO then 260 else 0:Int)=r:=⟨_,rfl⟩
  rw[hJV]at KJ HV;have HVV:Hid (CV=JV):=by show _=_;rw[<-HCV.out,HV.out]
  clear hRV hCV hJV HV;go_wp2_with(first|(go_at_call 21;(with_reducible refine KR.out.mono ?_);rintro e9 w5 ⟨rfl,hb5⟩;have HB5:=A8 hb5;clear hb5)|(go_at_call 20;(with_reducible refine(KO.out _ HB5.out).mono ?_);rintro e9 w6 ⟨rfl,hb6⟩;have HB6:=A8 (bel HB.out (bel HB5.out hb6));clear hb6)|(go_at_call 27;(with_reducible refine(KJ.out _).mono ?_);rintro e9 w7 ⟨rfl,hw7⟩;have hw7:=hw7.symm;subst hw7));refine bodyPost_ret (by simp[results,results16,go_sem, *];try rfl) rfl ?_;exact⟨by rw[HVV.out],HB6.out⟩
 .have q1:(E==0)=false:=beq_eq_false_iff_ne.2 h0;have q2:(E != 0)=true:=by simp[h0]
  have HV:Hid (CV=E):=by show _=_;rw[<-HCV.out];unfold Cy;rw[if_pos (by rw[HE.out];exact h0),HE.out]
  have H0:=A8 h0;clear h0;go_wp2_with fail;refine bodyPost_ret (by simp[results,results16,go_sem, *];try rfl) rfl ?_;exact⟨by rw[HV.out],HB.out⟩
theorem D4(v0 v1 v2 v3:Value)(c:Cd)(hk:AJ c)(at_:Int)(w:World)(hv:Bt w v0 v1 v2 v3 c):
 Calls prog 10 #[.agg #[v0,v1,v2,v3],.int .i64 at_] w fun e w'=>e=.returned (.tuple #[.int .i64 (AB c at_).1,.int .i64 (AB c at_).2])/\Below w.heap.size w w':=by
 obtain⟨X1,hX1⟩:∃v,(AB c at_).1=v:=⟨_,rfl⟩
 obtain⟨X2,hX2⟩:∃v,(AB c at_).2=v:=⟨_,rfl⟩
 rw[hX1,hX2];have HXV:Hid (AB c at_=(X1,X2)):=by show _=_;rw[<-hX1,<-hX2]
 clear hX1 hX2;obtain⟨E,hE⟩:∃e,(Ai c).1=e:=⟨_,rfl⟩
 have HE:=A8 hE;obtain⟨X,hX⟩:=gA (w.heap.size)
 obtain⟨W0,hW0⟩:∃W,w.alloc (.cells #[v0,v1,v2,v3] 27)=W:=⟨_,rfl⟩
 have hb0:Below w.heap.size w W0:=by rw[<-hW0];exact A0 _ _
 have x0:W0.cell? ⟨X,0,none⟩=some v0:=by rw[<-hW0,<-hX];simp[go_sem]
 have x1:W0.cell? ⟨X,1,none⟩=some v1:=by rw[<-hW0,<-hX];simp[go_sem]
 have x2:W0.cell? ⟨X,2,none⟩=some v2:=by rw[<-hW0,<-hX];simp[go_sem]
 have x3:W0.cell? ⟨X,3,none⟩=some v3:=by rw[<-hW0,<-hX];simp[go_sem]
 have HAT:Hid (AM W0 X v0 v1 v2 v3 c):=by
  exact L7
 have KC:=A8 (Cn v0 v1 v2 v3 c hk W0 (hv.below hb0));rw[hE]at KC;have HB0:=A8 hb0;have HW0:=A8 hW0;clear hv hb0 hE hk hW0;go_enter func10,ntmps10;go_upto_region 1 with fail;try rw[HW0.out]
 try rw[hX]
 clear hX;go_upto_region 2 with(go_at_call 19;(with_reducible refine KC.out.mono ?_);rintro e9 w4 ⟨rfl,hb4⟩;have HB4:=A8 hb4;clear hb4)
 have HB:=A8 (bel HB0.out HB4.out);clear x0 x1 x2 x3 KC;by_cases h0:E=0
 .subst h0;obtain⟨p3,q3,rfl,-⟩:=id HAT.2.list;have c3:w4.cell? ⟨X,3,none⟩=some (.slice p3 c.list.length q3):=kc HB4.out (HAT.1.at 3 rfl);by_cases hn:at_<0
  .have HV:Hid (AB c at_=(0,1)):=by show _=_;unfold AB;rw[if_neg Km,if_neg (by rw[Am];omega)]
   have HVV:Hid (((X1,X2):Int×Int)=(0,1)):=by show _=_;rw[<-HXV.out,HV.out]
   clear HV;exact LC
  .by_cases hm:(c.list.length:Int)<=at_
   .have HV:Hid (AB c at_=(0,1)):=by show _=_;unfold AB;rw[if_neg Km,if_neg (by rw[Am];omega)]
    have HVV:Hid (((X1,X2):Int×Int)=(0,1)):=by show _=_;rw[<-HXV.out,HV.out]
    obtain⟨L,hL⟩:∃n,c.list.length=n:=⟨_,rfl⟩
    rw[hL]at c3 hm;have hm2:at_≥(L:Int):=hm;clear HV hL;exact LC
   .obtain⟨k,rfl⟩:∃k:Nat,at_=(k:Int):=⟨at_.toNat,oM⟩
    have hkl:k<c.list.length:=oM;have HV:Hid (AB c (k:Int)=(B7 c c.list[k],0)):=by
     show _=_;unfold AB;rw[if_neg Km,if_pos (Am.2 ⟨oM,oM⟩),Int.toNat_natCast,gB hkl];rfl
    have HVV:Hid (((X1,X2):Int×Int)=(B7 c c.list[k],0)):=by show _=_;rw[<-HXV.out,HV.out]
    obtain⟨hd,ha⟩:=Gy HE.out c.list[k] (gD hkl);obtain⟨bb,oo,hpp,hcl⟩:=HAT.2.list.at hkl;have KW:=A8 (DR X bb (oo+k*7) _ _ _ _ c (Ci HE.out).1 c.list[k] hd ha (DP HE.out) w4 (HAT.below HB4.out) (hcl.below HB4.out));obtain⟨WG,hWG⟩:∃g,B7 c c.list[k]=g:=⟨_,rfl⟩
    rw[hWG]at KW HVV;obtain⟨L,hL⟩:∃n,c.list.length=n:=⟨_,rfl⟩
    rw[hL]at c3 hkl hm;have e1:¬ (k:Int)<0:=oM;have e2:¬ ((k:Int)≥(L:Int)):=oM;have e3:(k:Int)<(L:Int):=oM;have i1:(0:Int)<=(k:Int):=oM;subst hpp;clear HV hL hd ha hcl hWG hn;go_wp2_with(go_at_call 22;(with_reducible refine KW.out.mono ?_);rintro e9 w5 ⟨rfl,hb5⟩;have HB5:=A8 (bel HB.out hb5);clear hb5);refine bodyPost_ret (by simp[results,results10,go_sem, *];try rfl) rfl ?_;exact⟨by rw[(Prod.mk.inj HVV.out).1,(Prod.mk.inj HVV.out).2],HB5.out⟩
 .have q1:(E==0)=false:=beq_eq_false_iff_ne.2 h0;have q2:(E != 0)=true:=by simp[h0]
  have HV:Hid (AB c at_=(0,E)):=by show _=_;unfold AB;rw[if_pos (by rw[HE.out];exact h0),HE.out]
  have HVV:Hid (((X1,X2):Int×Int)=(0,E)):=by show _=_;rw[<-HXV.out,HV.out]
  have H0:=A8 h0;clear h0 HV;exact LC
theorem Jr{α:Type}{k:Nat}{f:α->List Value}(hf:∀x,(f x).length=k){l:List α}(w:World)(cs:Array Value)(t:TypeId)(h:cs.toList=Bd f l)(c:Nat):AS k f (w.alloc (.cells cs t)) (.slice (some ⟨w.heap.size,0,none⟩) l.length c) l:=by
 refine⟨_,_,rfl,.inr ⟨w.heap.size,0,rfl,fun i hi j hj=>?_⟩⟩;have hj':j<k:=by rw[<-hf l[i]];exact hj
 have h1:=Dr hf l i j hi hj';rw[<-h]at h1;have h2:cs[0+i*k+j]? =some (f l[i])[j]:=by
  rw[Nat.zero_add,<-Array.getElem?_toList,h1,gB hj]
 have h3:(w.alloc (.cells cs t)).heap[w.heap.size]? =some (.cells cs t (0,0)):=heap_alloc_new w _;unfold World.cell?;simp only[h3];exact h2
theorem CR{α:Type}{k:Nat}{f:α->List Value}(hf:∀x,(f x).length=k){l:List α}(w:World)(cs:Array Value)(t:TypeId)(h:cs.toList=Bd f l)(c:Nat){n:Nat}(hn:w.heap.size=n):AS k f (w.alloc (.cells cs t)) (.slice (some ⟨n,0,none⟩) l.length c) l:=by
 subst hn;exact Jr hf w cs t h c
def Et:Cd:=⟨[⟨⟨#[119]⟩,1,3⟩],[⟨3,0⟩,⟨1,0⟩],[],[⟨29,0,0,0,0,0,0⟩,⟨19,1,0,0,0,0,0⟩,⟨6,0,0,1,0,0,0⟩,⟨31,0,0,0,0,0,0⟩]⟩
theorem EV:(Ai Et).1=0:=by decide+kernel
theorem Gv:AJ Et:=⟨dE,dE,dE,dE,dE,dE,dE⟩
theorem JC:BK Et=12:=by decide+kernel
theorem JD:BB Et=4:=by decide+kernel
theorem IR:AB Et 1=(3,0):=by decide+kernel
theorem H9:Cy Et=0:=by decide+kernel
def Kw:Cd:=⟨[],[],[],[⟨0,0,0,0,0,0,0⟩]⟩
theorem Kx:AJ Kw:=⟨dE,dE,dE,dE,dE,dE,dE⟩
theorem GG:Cy Kw=160:=by decide+kernel
theorem FK(w:World):Calls prog 26 #[] w fun e w'=>∃a b d,e=.returned (.agg #[.slice (some ⟨a,0,none⟩) 1 1,.slice (some ⟨b,0,none⟩) 2 2,.slice none 0 0,.slice (some ⟨d,0,none⟩) 4 4])/\Bt w' (.slice (some ⟨a,0,none⟩) 1 1) (.slice (some ⟨b,0,none⟩) 2 2) (.slice none 0 0) (.slice (some ⟨d,0,none⟩) 4 4) Et/\Below w.heap.size w w':=by
 go_enter func26,ntmps26;go_wp2;refine bodyPost_ret (by simp[results,results26,go_sem];try rfl) rfl ?_;refine⟨_,_,_,rfl,?_,gG⟩;exact⟨(CR (l:=Et.sign) CM _ _ _ rF 1 sM).below (A0 _ _),CR (l:=Et.regs) Dv _ _ _ rF 2 sM,⟨none,0,rfl,.inl rfl⟩,((CR (l:=Et.list) CI _ _ _ rF 4 sM).below (A0 _ _)).below (A0 _ _)⟩
theorem F1(w:World):Calls prog 15 #[] w fun e w'=>e=.returned (.bool true)/\Below w.heap.size w w':=by
 have KS:=A8 (fun v=>FK v);have K1:=A8 (fun(v:World) (a0 a1 a2 a3:Value) (h:Bt v a0 a1 a2 a3 Et)=>Ec a0 a1 a2 a3 Et Gv v h);have K2:=A8 (fun(v:World) (a0 a1 a2 a3:Value) (h:Bt v a0 a1 a2 a3 Et)=>Ed a0 a1 a2 a3 Et Gv v h);have K3:=A8 (fun(v:World) (a0 a1 a2 a3:Value) (h:Bt v a0 a1 a2 a3 Et)=>D4 a0 a1 a2 a3 Et Gv 1 v h);have K4:=A8 (fun(v:World) (a0 a1 a2 a3:Value) (h:Bt v a0 a1 a2 a3 Et)=>DQ a0 a1 a2 a3 Et Gv v h);have K5:=A8 (fun(v:World) (a0 a1 a2 a3:Value) (h:Bt v a0 a1 a2 a3 Kw)=>DQ a0 a1 a2 a3 Kw Kx v h);rw[EV,JC,if_pos rfl]at K1;rw[EV,JD,if_pos rfl]at K2;rw[IR]at K3;rw[H9]at K4;rw[GG]at K5;simp only at K3;have K6:Hid (∀v:World,Calls prog 16 #[.agg #[.slice none 0 0,.slice none 0 0,.slice none 0 0,.slice (some ⟨v.heap.size,0,none⟩) 1 1]] (v.alloc (.cells #[.int .i64 0,.int .i64 0,.int .i64 0,.int .i64 0,.int .i64 0,.int .i64 0,.int .u32 0] 53)) fun e w'=>e=.returned (.int .i64 160)/\Below v.heap.size v w'):=fun v=>(K5.out _ _ _ _ _ ⟨⟨none,0,rfl,.inl rfl⟩,⟨none,0,rfl,.inl rfl⟩,⟨none,0,rfl,.inl rfl⟩,CR (l:=Kw.list) CI v _ _ rF 1 rfl⟩).mono fun e w' ⟨h1,h2⟩=>⟨h1,bel (A0 _ _) h2⟩
 clear K5;go_enter func15,ntmps15;go_upto_region 2 with(first|(go_at_call 26;(with_reducible refine(KS.out _).mono ?_);rintro r9 w1 ⟨a1,b1,d1,rfl,hc1,hb1⟩;have HC1:=A8 hc1;have HB1:=A8 hb1;clear hc1 hb1)|(go_at_call 8;(with_reducible refine(K1.out _ _ _ _ _ HC1.out).mono ?_);rintro r9 w2 ⟨rfl,hb2⟩;have HB2:=A8 (bel HB1.out hb2);clear hb2))
 clear HC1 HB1 K1;go_upto_region 3 with(first|(go_at_call 26;(with_reducible refine(KS.out _).mono ?_);rintro r9 w3 ⟨a1,b1,d1,rfl,hc1,hb1⟩;have HC3:=A8 hc1;have HB3:=A8 (bel HB2.out hb1);clear hc1 hb1)|(go_at_call 9;(with_reducible refine(K2.out _ _ _ _ _ HC3.out).mono ?_);rintro r9 w4 ⟨rfl,hb2⟩;have HB4:=A8 (bel HB3.out hb2);clear hb2))
 clear HC3 HB2 HB3 K2;go_upto_region 4 with(first|(go_at_call 26;(with_reducible refine(KS.out _).mono ?_);rintro r9 w5 ⟨a1,b1,d1,rfl,hc1,hb1⟩;have HC5:=A8 hc1;have HB5:=A8 (bel HB4.out hb1);clear hc1 hb1)|(go_at_call 10;(with_reducible refine(K3.out _ _ _ _ _ HC5.out).mono ?_);rintro r9 w6 ⟨rfl,hb2⟩;have HB6:=A8 (bel HB5.out hb2);clear hb2))
 clear HC5 HB4 HB5 K3;go_wp2_with(first
  |(go_at_call 26;(with_reducible refine(KS.out _).mono ?_);rintro r9 w7 ⟨a1,b1,d1,rfl,hc1,hb1⟩;have HC7:=A8 hc1;have HB7:=A8 (bel HB6.out hb1);clear hc1 hb1)
  |(go_at_call 16;(with_reducible refine(K4.out _ _ _ _ _ HC7.out).mono ?_);rintro r9 w8 ⟨rfl,hb2⟩;have HB8:=A8 (bel HB7.out hb2);clear hb2)
  |(go_at_call 16;(with_reducible refine(K6.out _).mono ?_);rintro r9 w9 ⟨rfl,hb2⟩;have HB9:=A8 (bel HB8.out hb2);clear hb2))
 refine bodyPost_ret (by simp[results,results15,go_sem, *];try rfl) rfl ?_;exact⟨by first|rfl|simp,HB9.out⟩
end Go.Proofs.Ytheanilpbnencaa
