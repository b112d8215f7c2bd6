import Derived.Test.YtheanilpbnencaaSum16
import Derived.Test.YtheanilpbnencaaSum11
import Derived.Test.YtheanilpbnencaaSum15
import Derived.Deep.DeepCutAuto
import Derived.Test.YtheanilpbnencaaSum1
namespace Go.Proofs.Ytheanilpbnencaa
open Go.RowKit Go.Proofs.Try
set_option linter.all false
set_option maxRecDepth 100000
set_option maxHeartbeats 16000000
theorem F9{c:Cd}(hk:AX c)(hc:(A9 c).1=0){x:List Au}(hx:x.length<=100000)(hb:∀i∈x,i∈c.list\/i=jV c):AX (At c x)/\GF (At c x):=by
 have hA:=AM.1 (Ai.1 hc).1;have h1:=hA.regs;have h2:=hA.slots;have h3:=(C8 hc).1;refine⟨⟨hk.signL,hk.names,?_,?_,?_,?_,?_⟩,⟨?_,?_,?_,?_⟩⟩
 .show(c.regs++[_]).length<=_;rw[List.length_append,List.length_singleton];omega
 .show(c.slots++[_]).length<=_;rw[List.length_append,List.length_singleton];omega
 .show x.length<=_;omega
 .intro s hs;rcases List.mem_append.1 hs with h|h
  .exact hk.sbits s h
  .rw[List.mem_singleton.1 h];decide
 .intro i hi;rcases hb i hi with h|h
  .exact hk.ibits i h
  .rw[h];exact⟨by show(0:Int)<=0;decide,by show(0:Int)<_;decide⟩
 .show c.sign.length*32<=_;omega
 .show(c.regs++[_]).length*16<=_;rw[List.length_append,List.length_singleton];omega
 .show(c.slots++[_]).length*32<=_;rw[List.length_append,List.length_singleton];omega
 .show x.length*56<=_;omega
theorem Cl(v0 v1 v2 v3:Value)(c:Cd)(hk:AX c)(hz:GF c)(w:World)(hv:CU w v0 v1 v2 v3 c):
 Calls prog 6 #[.agg #[v0,v1,v2,v3]] w fun e w'=>e=.returned (.bool true)/\Below w.heap.size w w':=by
 have KW:=A4 (fun v=>DR v);obtain⟨p0,q0,rfl⟩:∃p q,v0=.slice p c.sign.length q:=by obtain⟨p,q,e,_⟩:=hv.sign;exact⟨p,q,e⟩
 obtain⟨p1,q1,rfl⟩:∃p q,v1=.slice p c.regs.length q:=by obtain⟨p,q,e,_⟩:=hv.regs;exact⟨p,q,e⟩
 obtain⟨p2,q2,rfl⟩:∃p q,v2=.slice p c.slots.length q:=by obtain⟨p,q,e,_⟩:=hv.slots;exact⟨p,q,e⟩
 obtain⟨p3,q3,rfl⟩:∃p q,v3=.slice p c.list.length q:=by obtain⟨p,q,e,_⟩:=hv.list;exact⟨p,q,e⟩
 obtain⟨X,hX⟩:=gA (w.heap.size)
 obtain⟨W0,hW0⟩:∃W,w.alloc (.cells #[.slice p0 c.sign.length q0,.slice p1 c.regs.length q1,.slice p2 c.slots.length q2,.slice p3 c.list.length q3] 27)=W:=⟨_,rfl⟩
 have hb0:Below w.heap.size w W0:=by rw[<-hW0];exact A0 _ _
 have x0:W0.cell? ⟨X,0,none⟩=some (.slice p0 c.sign.length q0):=by rw[<-hW0,<-hX];simp[go_sem]
 have x1:W0.cell? ⟨X,1,none⟩=some (.slice p1 c.regs.length q1):=by rw[<-hW0,<-hX];simp[go_sem]
 have x2:W0.cell? ⟨X,2,none⟩=some (.slice p2 c.slots.length q2):=by rw[<-hW0,<-hX];simp[go_sem]
 have x3:W0.cell? ⟨X,3,none⟩=some (.slice p3 c.list.length q3):=by rw[<-hW0,<-hX];simp[go_sem]
 have hv0:=hv.below hb0;have KT:=A4 (fun(u:World) (h:Below W0.heap.size W0 u)=>CP _ _ _ _ c hz u (hv0.below h));have HX:=A4 (fun(u:World) (h:Below W0.heap.size W0 u)=>(⟨kc h x0,kc h x1,kc h x2,kc h x3⟩:u.cell? ⟨X,0,none⟩=some (.slice p0 c.sign.length q0)/\u.cell? ⟨X,1,none⟩=some (.slice p1 c.regs.length q1)/\u.cell? ⟨X,2,none⟩=some (.slice p2 c.slots.length q2)/\u.cell? ⟨X,3,none⟩=some (.slice p3 c.list.length q3)));have HB0:=A4 hb0;have HV:=A4 (fun(u:World) (h:Below W0.heap.size W0 u)=>hv0.below h);have KC:=A4 (fun(u:World) (x0 x1 x2 x3:Value) (h:CU u x0 x1 x2 x3 c)=>BG x0 x1 x2 x3 c hk u h);by_cases hc:(A9 c).1≠0
 .rw[if_neg hc]at KC;obtain⟨E,hE⟩:∃e,(A9 c).1=e:=⟨_,rfl⟩
  rw[hE]at KC hc;have q1:(E==0)=false:=beq_eq_false_iff_ne.2 hc;have q2:(E != 0)=true:=by simp[hc]
  have HC:=A4 hc;clear hb0 hv hv0 hE hc;go_enter func6,ntmps6;go_upto_region 1 with fail;try rw[hW0]
  try rw[hX]
  clear hW0 hX;go_upto_region 2 with(first|(go_at_call 7;(with_reducible refine(KT.out _ (Below.refl _ _)).mono ?_);rintro e9 w3 ⟨t0,t1,t2,t3,rfl,ht3,ho3,hb3⟩;obtain⟨r0,s0,rfl⟩:=Ac ho3.sign;obtain⟨r1,s1,rfl⟩:=Ac ho3.regs;obtain⟨r2,s2,rfl⟩:=Ac ho3.slots;obtain⟨r3,s3,rfl⟩:=Ac ho3.list;have HT3:=A4 ht3;have HB3:=A4 hb3;clear ht3 ho3 hb3)|(go_at_call 8;(with_reducible refine(KC.out _ _ _ _ _ HT3.out).mono ?_);rintro e9 w4 ⟨rfl,hb⟩;have HB4:=A4 (bel HB3.out hb);clear hb))
  go_wp2_with(go_at_call 15;(with_reducible refine(KW.out _).mono ?_);rintro e9 wz ⟨rfl,hbz⟩;have HBz:=A4 (bel HB4.out hbz);clear hbz);refine bodyPost_ret (by simp[results,results6,go_sem, *];try rfl) rfl ?_;exact⟨by first|rfl|simp,bel HB0.out HBz.out⟩
 replace hc:(A9 c).1=0:=Decidable.of_not_not hc
 rw[if_pos hc,hc]at KC;have HC:=A4 hc;obtain⟨hL1,hL2⟩:=Cu c.list (fun i hi=>BV hc i hi);have hlen:=C8 hc;have hAH:=AM.1 (Ai.1 hc).1;have hcv1:0<=AK c:=by show 0<=Am c c.list;omega
 have hcv2:AK c<=134217728:=by show Am c c.list<=_;omega
 have KWG:=A4 (fun(u:World) (n:Int) (h:Below W0.heap.size W0 u)=>BZ _ _ _ _ c hk n u (hv0.below h));obtain⟨CV,hCV⟩:∃v,AK c=v:=⟨_,rfl⟩
 rw[hCV]at KC hcv1 hcv2;have HCV:=A4 hCV;have wS:IntKind.i64.wrap (CV+1)=CV+1:=by rw[IntKind.wrap_i64];omega
 clear hb0 hv hL1 hL2 hcv1 hcv2 hCV;have HLB:=A4 (And.intro hAH.regs (And.intro hAH.slots hlen.2));have HK:=A4 hk;clear hv0 hlen hAH hc hk;go_enter func6,ntmps6;go_upto_region 1 with fail;try rw[hW0]
 try rw[hX]
 clear hW0 hX;go_upto_region 2 with(first|(go_at_call 7;(with_reducible refine(KT.out _ (Below.refl _ _)).mono ?_);rintro e9 w3 ⟨t0,t1,t2,t3,rfl,ht3,ho3,hb3⟩;obtain⟨r0,s0,rfl⟩:=Ac ho3.sign;obtain⟨r1,s1,rfl⟩:=Ac ho3.regs;obtain⟨r2,s2,rfl⟩:=Ac ho3.slots;obtain⟨r3,s3,rfl⟩:=Ac ho3.list;have HT3:=A4 ht3;have HB3:=A4 hb3;clear ht3 ho3 hb3)|(go_at_call 8;(with_reducible refine(KC.out _ _ _ _ _ HT3.out).mono ?_);rintro e9 w4 ⟨rfl,hb⟩;have HB4:=A4 (bel HB3.out hb);clear hb))
 clear x0 x1 x2 x3;go_upto_block 0 with fail;go_cut [5] (fun sv wx=>sv=.int .i64 CV/\Hid (Below W0.heap.size W0 wx))
 case first=>
  go_wp2_with fail
  go_loopw [5,6] (fun nv iv wx=>∃k:Nat,k<=c.list.length/\iv=.int .i64 (k:Int)/\nv=.int .i64 (Am c (c.list.take k))/\Hid (Below W0.heap.size W0 wx)) (fun _ iv _=>c.list.length-(intOf iv).toNat)
  case atStart=>exact⟨0,gI _,rfl,rfl,HB4⟩
  case round=>
   obtain⟨k,hkk,rfl,rfl,HBW⟩:=hrel;obtain⟨y0,y1,y2,y3⟩:=HX.out _ HBW.out;by_cases hlt:k<c.list.length
   .have e1:(k:Int)<(c.list.length:Int):=oM;have hkl:k<c.list.length:=hlt;have HS1:=A4 (DD (c:=c) hkl);obtain⟨hb1,hb2⟩:=BV HC.out c.list[k] (gD hkl);obtain⟨hs1,hs2⟩:=EC HC.out k;have hwv:Ay c (k:Int)=(B6 c c.list[k],0):=by
     unfold Ay;rw[if_neg (by rw[HC.out];simp),if_pos (Af.2 ⟨oM,oM⟩),Int.toNat_natCast,gB hkl];rfl
    have KWK:=A4 (KWG.out wr (k:Int) HBW.out);rw[hwv]at KWK;obtain⟨WG,hWG⟩:∃g,B6 c c.list[k]=g:=⟨_,rfl⟩
    rw[hWG]at KWK HS1 hb1 hb2;obtain⟨SM,hSM⟩:∃g,Am c (c.list.take k)=g:=⟨_,rfl⟩
    rw[hSM]at HS1 hs1 hs2;rw[hSM];have hkL:c.list.length<=32768:=by have:=HLB.2.2;omega
    have wT:IntKind.i64.wrap (SM+WG)=SM+WG:=by rw[IntKind.wrap_i64];omega
    have wk:IntKind.i64.wrap ((k:Int)+1)=((k+1:Nat):Int):=by rw[IntKind.wrap_i64];omega
    have g1:¬ (WG<1):=oM;have g2:¬ (WG>4096):=oM;have g3:¬ (4096<WG):=oM;have hk1:k+1<=c.list.length:=hlt;simp only at KWK;clear hkl hb1 hb2 hs1 hs2 hwv hWG hSM hkL;go_wp2_with(go_at_call 10;(with_reducible refine KWK.out.mono ?_);rintro r9 w8 ⟨rfl,hb8⟩;have HB8:=A4 (bel HBW.out hb8);clear hb8);exact HI
   .have e1:¬ (k:Int)<(c.list.length:Int):=oM;have hkl:c.list.take k=c.list:=List.take_of_length_le oM;have HF:Hid (Am c (c.list.take k)=CV):=by show _=_;rw[hkl,<-HCV.out];rfl
    clear hkl hlt;go_wp2_with fail;go_meet;exact⟨by rw[HF.out],HBW⟩
 case rest=>
  obtain⟨rfl,HBX⟩:=hcut;clear HB3 HT3 HB4;obtain⟨y0,y1,y2,y3⟩:=HX.out _ HBX.out;have HVX:=A4 (HV.out _ HBX.out);have HXX:=A4 (fun(u:World) (h:Below wc.heap.size wc u)=>HX.out u (bel HBX.out h));go_upto_region 15 with(go_at_call 7;(with_reducible refine(KT.out wc HBX.out).mono ?_);rintro e9 w3 ⟨t0,t1,t2,t3,rfl,ht3,ho3,hb3⟩;obtain⟨r0,s0,rfl⟩:=Ac ho3.sign;obtain⟨r1,s1,rfl⟩:=Ac ho3.regs;obtain⟨r2,s2,rfl⟩:=Ac ho3.slots;obtain⟨r3,s3,rfl⟩:=Ac ho3.list;have HO3:=A4 ho3;have HB3:=A4 hb3;clear ht3 ho3 hb3)
  obtain⟨DB,hDB⟩:∃Z,w3.heap.size=Z:=⟨_,rfl⟩
  obtain⟨V,hV⟩:=gA (w3.alloc (.cells #[.slice r0 c.sign.length s0,.slice r1 c.regs.length s1,.slice r2 c.slots.length s2,.slice r3 c.list.length s3] 27))
  have hbV:Below w3.heap.size w3 V:=by rw[<-hV];exact A0 _ _
  have hrow:V.rowIs DB 27 4 (f4 (.slice r0 c.sign.length s0) (.slice r1 c.regs.length s1) (.slice r2 c.slots.length s2) (.slice r3 c.list.length s3)):=by rw[<-hV,<-hDB];exact Fl w3 _ _ _ _ _
  have HD0:Hid (C5 wc.heap.size DB V c (.slice r0 c.sign.length s0) (.slice r1 c.regs.length s1) (.slice r2 c.slots.length s2) (.slice r3 c.list.length s3)):=⟨by rw[<-hDB];exact HB3.size,hrow,An HO3.sign hbV,An HO3.regs hbV,An HO3.slots hbV,An HO3.list hbV⟩
  have HBV:Hid (Below wc.heap.size wc V):=bel HB3.out hbV;try rw[hV]
  try rw[hDB]
  clear hV hDB hbV hrow HO3 HB3 y0 y1 y2 y3;obtain⟨g21,q21,w21,hrun21,hrw21,hcd21,hbl21⟩:=HD0.slot ⟨⟨2,0⟩,false,0,0⟩ (by have:=HLB.2.1;omega) 24;have HRUN21:Hid ((Builtin.append_ #[24,24] 24 #[_,.slice (some ⟨V.heap.size,0,none⟩) 1 1]).run prog (V.alloc (.cells #[.int .i64 2,.int .i64 0,.bool false,.int .u32 0,.int .i64 0] 51))=.ok (.slice (some ⟨g21,0,none⟩) (c.slots.length+1) q21) w21):=hrun21;have hcd21:C5 _ DB (w21.setCell ⟨DB,2,none⟩ (.slice (some ⟨g21,0,none⟩) (c.slots.length+1) q21)) _ _ _ _ _:=hcd21;have hbl21:Below _ _ (w21.setCell ⟨DB,2,none⟩ (.slice (some ⟨g21,0,none⟩) (c.slots.length+1) q21)):=hbl21;obtain⟨z0,z1,z2,z3⟩:=c4 HD0.row;obtain⟨a0,a1,a2,a3⟩:=c4 hrw21;obtain⟨f0,f1,f2,f3⟩:=z4 hrw21;obtain⟨V1,hV21⟩:∃W,w21.setCell ⟨DB,2,none⟩ (.slice (some ⟨g21,0,none⟩) (c.slots.length+1) q21)=W:=⟨_,rfl⟩
  rw[hV21]at hcd21 hbl21;have HD1:=A4 hcd21;have HBL21:=A4 hbl21;clear hrun21 hrw21 hcd21 hbl21;go_upto_region 16 with(at_builtin;refine Av rF _ _ _ rF _ _ _ rF rF HRUN21.out ?_)
  try rw[hV21]
  clear hV21 z0 z1 z2 z3 a0 a1 a2 a3 f0 f1 f2 f3;obtain⟨g22,q22,w22,hrun22,hrw22,hcd22,hbl22⟩:=HD1.reg ⟨2,0⟩ (by show c.regs.length*16<=_;have:=HLB.1;omega) 23;have HRUN22:Hid ((Builtin.append_ #[23,23] 23 #[_,.slice (some ⟨V1.heap.size,0,none⟩) 1 1]).run prog (V1.alloc (.cells #[.int .i64 2,.int .i64 0] 47))=.ok (.slice (some ⟨g22,0,none⟩) (c.regs.length+1) q22) w22):=hrun22;have hcd22:C5 _ DB (w22.setCell ⟨DB,1,none⟩ (.slice (some ⟨g22,0,none⟩) (c.regs.length+1) q22)) _ _ _ _ _:=hcd22;have hbl22:Below _ _ (w22.setCell ⟨DB,1,none⟩ (.slice (some ⟨g22,0,none⟩) (c.regs.length+1) q22)):=hbl22;obtain⟨z0,z1,z2,z3⟩:=c4 HD1.row;obtain⟨a0,a1,a2,a3⟩:=c4 hrw22;obtain⟨f0,f1,f2,f3⟩:=z4 hrw22;obtain⟨V2,hV22⟩:∃W,w22.setCell ⟨DB,1,none⟩ (.slice (some ⟨g22,0,none⟩) (c.regs.length+1) q22)=W:=⟨_,rfl⟩
  rw[hV22]at hcd22 hbl22;have HD2:=A4 hcd22;have HBL22:=A4 hbl22;clear hrun22 hrw22 hcd22 hbl22;go_upto_region 17 with(at_builtin;refine Av rF _ _ _ rF _ _ _ rF rF HRUN22.out ?_)
  try rw[hV22]
  clear hV22 z0 z1 z2 z3 a0 a1 a2 a3 f0 f1 f2 f3;have hrl:=HLB.1;obtain⟨z0,z1,z2,z3⟩:=c4 HD2.row;go_upto_region 18 with fail;clear z0 z1 z2 z3;obtain⟨g23,q23,w23,hrun23,hrw23,hcd23,hbl23⟩:=HD2.ins (jV c) (by show c.list.length*56<=_;have:=HLB.2.2;omega) 25;have HRUN23:Hid ((Builtin.append_ #[25,25] 25 #[_,.slice (some ⟨V2.heap.size,0,none⟩) 1 1]).run prog (V2.alloc (.cells #[.int .i64 2,.int .i64 (c.regs.length:Int),.int .i64 0,.int .i64 0,.int .i64 0,.int .i64 0,.int .u32 0] 53))=.ok (.slice (some ⟨g23,0,none⟩) (c.list.length+1) q23) w23):=hrun23;have hcd23:C5 _ DB (w23.setCell ⟨DB,3,none⟩ (.slice (some ⟨g23,0,none⟩) (c.list.length+1) q23)) _ _ _ _ _:=hcd23;have hbl23:Below _ _ (w23.setCell ⟨DB,3,none⟩ (.slice (some ⟨g23,0,none⟩) (c.list.length+1) q23)):=hbl23;obtain⟨z0,z1,z2,z3⟩:=c4 HD2.row;obtain⟨a0,a1,a2,a3⟩:=c4 hrw23;obtain⟨f0,f1,f2,f3⟩:=z4 hrw23;obtain⟨V3,hV23⟩:∃W,w23.setCell ⟨DB,3,none⟩ (.slice (some ⟨g23,0,none⟩) (c.list.length+1) q23)=W:=⟨_,rfl⟩
  rw[hV23]at hcd23 hbl23;have HD3:=A4 hcd23;have HBL23:=A4 hbl23;clear hrun23 hrw23 hcd23 hbl23;go_upto_region 19 with(at_builtin;refine Av rF _ _ _ rF _ _ _ rF rF HRUN23.out ?_)
  try rw[hV23]
  clear hV23 z0 z1 z2 z3 a0 a1 a2 a3 f0 f1 f2 f3;have HBV3:Hid (Below wc.heap.size wc V3):=HBV.trans (HBL21.trans (HBL22.trans HBL23.out));have HD4:Hid (C5 wc.heap.size DB V3 (At c (c.list++[jV c])) _ _ _ _):=HD3.out;obtain⟨ok1,sz1⟩:=F9 HK.out HC.out (x:=c.list++[jV c]) (by rw[List.length_append,List.length_singleton];have:=HLB.2.2;omega) (fun i hi=>by rcases List.mem_append.1 hi with h|h;exact .inl h;exact .inr (List.mem_singleton.1 h));have KD:=A4 (BG _ _ _ _ _ ok1 V3 HD4.cdv);have KT2:=A4 (fun(u:World) (h:Below V3.heap.size V3 u)=>CP _ _ _ _ _ sz1 u (HD4.cdv.below h));obtain⟨z0,z1,z2,z3⟩:=c4 HD4.row;have HZ:=A4 (fun(u:World) (h:Below V3.heap.size V3 u)=>(⟨kc h z0,kc h z1,kc h z2,kc h z3⟩:u.cell? ⟨DB,0,none⟩=some _/\u.cell? ⟨DB,1,none⟩=some _/\u.cell? ⟨DB,2,none⟩=some _/\u.cell? ⟨DB,3,none⟩=some _));clear HD1 HD2 HD3 HD0 HBL21 HBL22 HBL23 HRUN21 HRUN22 HRUN23;by_cases hd:(A9 (At c (c.list++[jV c]))).1≠0
  .rw[if_neg hd]at KD;obtain⟨E,hE⟩:∃e,(A9 (At c (c.list++[jV c]))).1=e:=⟨_,rfl⟩
   have hwide:16384<=c.regs.length\/4096<=c.slots.length\/32768<=c.list.length:=by
    rcases Nat.lt_or_ge c.regs.length 16384 with h1|h1
    .rcases Nat.lt_or_ge c.slots.length 4096 with h2|h2
     .rcases Nat.lt_or_ge c.list.length 32768 with h3|h3
      .exact absurd (H3 HC.out h1 h2 h3) hd
      .exact .inr (.inr h3)
     .exact .inr (.inl h2)
    .exact .inl h1
   rw[hE]at KD hd;have q1:(E==0)=false:=beq_eq_false_iff_ne.2 hd;have q2:(E != 0)=true:=by simp[hd]
   have HDD:=A4 hd;clear ok1 sz1 hE hd KT2;go_upto_region 20 with(go_at_call 8;(with_reducible refine(KD.out).mono ?_);rintro e9 w5 ⟨rfl,hb⟩;have HB35:=A4 hb;have HB5:=A4 (bel HBV3.out hb);clear hb)
   obtain⟨y0,y1,y2,y3⟩:=HXX.out _ HB5.out;have HBD:Hid (Below w.heap.size w w5):=bel HB0.out (bel HBX.out HB5.out);clear z0 z1 z2 z3;by_cases g1:16384<=c.regs.length
   .have g2:(16384:Int)<=(c.regs.length:Int):=oM;have g3:(c.regs.length:Int)≥16384:=g2;exact Hy
   .have g2:¬ (16384:Int)<=(c.regs.length:Int):=oM;have g3:¬ (c.regs.length:Int)≥16384:=g2;by_cases k1:4096<=c.slots.length
    .have k2:(4096:Int)<=(c.slots.length:Int):=oM;have k3:(c.slots.length:Int)≥4096:=k2;exact Hy
    .have k2:¬ (4096:Int)<=(c.slots.length:Int):=oM;have k3:¬ (c.slots.length:Int)≥4096:=k2;have l1:32768<=c.list.length:=oM;have l2:(32768:Int)<=(c.list.length:Int):=oM;have l3:(c.list.length:Int)≥32768:=l2;exact Hy
  .replace hd:(A9 (At c (c.list++[jV c]))).1=0:=Decidable.of_not_not hd
   have hcs:=F3 HC.out;have hfst:=Eo HC.out hd;rw[if_pos hd,hd,hcs.1,HCV.out]at KD;go_upto_region 20 with(go_at_call 8;(with_reducible refine(KD.out).mono ?_);rintro e9 w5 ⟨rfl,hb⟩;have HB35:=A4 hb;have HB5:=A4 (bel HBV3.out hb);clear hb)
   clear z0 z1 z2 z3;have HB5V:Hid (Below V3.heap.size V3 w5):=HB35;obtain⟨z0,z1,z2,z3⟩:=HZ.out _ HB5V.out;obtain⟨ok2,sz2⟩:=F9 HK.out HC.out (x:=[]++[jV c]++c.list) (by simp only[List.length_append,List.length_singleton,List.length_nil];have:=HLB.out.2.2;omega) (fun i hi=>by rcases List.mem_append.1 hi with h|h;exact .inr (List.mem_singleton.1 (by simpa using h));exact .inl h);clear hd ok1 sz1 KD;go_upto_region 23 with(go_at_call 7;(with_reducible refine(KT2.out w5 HB5V.out).mono ?_);rintro e9 w6 ⟨t0,t1,t2,t3,rfl,ht6,ho6,hb6⟩;obtain⟨n0,m0,rfl⟩:=Ac ho6.sign;obtain⟨n1,m1,rfl⟩:=Ac ho6.regs;obtain⟨n2,m2,rfl⟩:=Ac ho6.slots;obtain⟨n3,m3,rfl⟩:=Ac ho6.list;have HO6:=A4 ho6;have HB6:=A4 hb6;clear ht6 ho6 hb6)
   clear z0 z1 z2 z3;obtain⟨FB,hFB⟩:∃Z,w6.heap.size=Z:=⟨_,rfl⟩
   obtain⟨Y,hY⟩:∃V,w6.alloc (.cells #[.slice n0 (At c (c.list++[jV c])).sign.length m0,.slice n1 (At c (c.list++[jV c])).regs.length m1,.slice n2 (At c (c.list++[jV c])).slots.length m2,.slice n3 (At c (c.list++[jV c])).list.length m3] 27)=V:=⟨_,rfl⟩
   have hbY:Below w6.heap.size w6 Y:=by rw[<-hY];exact A0 _ _
   have hrow:Y.rowIs FB 27 4 (f4 (.slice n0 (At c (c.list++[jV c])).sign.length m0) (.slice n1 (At c (c.list++[jV c])).regs.length m1) (.slice n2 (At c (c.list++[jV c])).slots.length m2) (.slice n3 (At c (c.list++[jV c])).list.length m3)):=by rw[<-hY,<-hFB];exact Fl w6 _ _ _ _ _
   have HF0:=A4 (⟨by rw[<-hFB];exact HB6.size,hrow,An HO6.sign hbY,An HO6.regs hbY,An HO6.slots hbY,An HO6.list hbY⟩:C5 w5.heap.size FB Y (At c (c.list++[jV c])) _ _ _ _);have HBY:Hid (Below w5.heap.size w5 Y):=bel HB6.out hbY;try rw[hY]
   try rw[hFB]
   clear hY hFB hbY hrow HO6 HB6;have hq:=HF0.bare;obtain⟨Y1,hY1⟩:∃W,Y.setCell ⟨FB,3,none⟩ (.slice none 0 0)=W:=⟨_,rfl⟩
   rw[hY1]at hq;have HF1:=A4 hq.1;have HBY1:=A4 hq.2;obtain⟨f0,f1,f2,f3⟩:=z4 HF0.row;obtain⟨z0,z1,z2,z3⟩:=c4 HF0.row;go_upto_region 24 with fail;try rw[hY1]
   clear hY1 hq f0 f1 f2 f3 z0 z1 z2 z3;obtain⟨g24,q24,w24,hrun24,hrw24,hcd24,hbl24⟩:=HF1.ins (jV c) (by show 0*56<=_;omega) 25;have HRUN24:Hid ((Builtin.append_ #[25,25] 25 #[_,.slice (some ⟨Y1.heap.size,0,none⟩) 1 1]).run prog (Y1.alloc (.cells #[.int .i64 2,.int .i64 (c.regs.length:Int),.int .i64 0,.int .i64 0,.int .i64 0,.int .i64 0,.int .u32 0] 53))=.ok (.slice (some ⟨g24,0,none⟩) (1) q24) w24):=hrun24;have hcd24:C5 _ FB (w24.setCell ⟨FB,3,none⟩ (.slice (some ⟨g24,0,none⟩) (1) q24)) _ _ _ _ _:=hcd24;have hbl24:Below _ _ (w24.setCell ⟨FB,3,none⟩ (.slice (some ⟨g24,0,none⟩) (1) q24)):=hbl24;obtain⟨z0,z1,z2,z3⟩:=c4 HF1.row;obtain⟨a0,a1,a2,a3⟩:=c4 hrw24;obtain⟨f0,f1,f2,f3⟩:=z4 hrw24;obtain⟨Y2,hV24⟩:∃W,w24.setCell ⟨FB,3,none⟩ (.slice (some ⟨g24,0,none⟩) (1) q24)=W:=⟨_,rfl⟩
   rw[hV24]at hcd24 hbl24;have HF2:=A4 hcd24;have HBL24:=A4 hbl24;clear hrun24 hrw24 hcd24 hbl24;go_upto_region 25 with(at_builtin;refine Av rF _ _ _ rF _ _ _ rF rF HRUN24.out ?_)
   try rw[hV24]
   clear hV24 z0 z1 z2 z3 a0 a1 a2 a3 f0 f1 f2 f3;have hb52:Below w5.heap.size w5 Y2:=HBY.trans (HBY1.trans HBL24.out);obtain⟨y0,y1,y2,y3⟩:=HXX.out _ (bel HB5.out hb52);obtain⟨g25,q25,w25,hrun25,hrw25,hcd25,hbl25⟩:=HF2.more (HV.out Y2 (bel HBX.out (bel HB5.out hb52))).list (by show(0+1+c.list.length)*56<=_;have:=HLB.2.2;omega);have HRUN25:Hid ((Builtin.append_ #[25,25] 25 #[.slice (some ⟨g24,0,none⟩) 1 q24,.slice p3 c.list.length q3]).run prog Y2=.ok (.slice g25 (1+c.list.length) q25) w25):=hrun25;obtain⟨z0,z1,z2,z3⟩:=c4 HF2.row;obtain⟨f0,f1,f2,f3⟩:=z4 hrw25;obtain⟨a0,a1,a2,a3⟩:=c4 hrw25;obtain⟨Y3,hY3⟩:∃W,w25.setCell ⟨FB,3,none⟩ (.slice g25 (1+c.list.length) q25)=W:=⟨_,rfl⟩
   have hcd26:C5 w5.heap.size FB Y3 (At c ([]++[jV c]++c.list)) (.slice n0 (At c (c.list++[jV c])).sign.length m0) (.slice n1 (At c (c.list++[jV c])).regs.length m1) (.slice n2 (At c (c.list++[jV c])).slots.length m2) (.slice g25 (1+c.list.length) q25):=by rw[<-hY3];exact hcd25
   have hbl26:Below w5.heap.size Y2 Y3:=by rw[<-hY3];exact hbl25
   have HF3:=A4 hcd26;have HBL25:=A4 hbl26;clear hrun25 hrw25 hcd25 hbl25 hcd26 hbl26;go_upto_region 26 with(at_builtin;refine Av rF _ _ _ rF _ _ _ rF rF HRUN25.out ?_)
   try rw[hY3]
   clear hY3 z0 z1 z2 z3 a0 a1 a2 a3 f0 f1 f2 f3 y0 y1 y2 y3;have KF:=A4 (BG _ _ _ _ _ ok2 Y3 HF3.out.cdv);have hfst2:(A9 (At c ([]++[jV c]++c.list))).1=0:=hfst;have hcs2:AK (At c ([]++[jV c]++c.list))=AK c+1:=hcs.2;rw[if_pos hfst2,hfst2,hcs2,HCV.out]at KF;have HBY3:=A4 (hb52.trans HBL25.out);obtain⟨z0,z1,z2,z3⟩:=c4 HF3.out.row;clear hfst hfst2 hcs hcs2 ok2 sz2 hb52;go_wp2_with(first|(go_at_call 8;(with_reducible refine(KF.out).mono ?_);rintro e9 w7 ⟨rfl,hb⟩;have HB7:=A4 (bel HB0.out (bel HBX.out (bel HB5.out (bel HBY3.out hb))));clear hb)|(go_at_call 15;(with_reducible refine(KW.out _).mono ?_);rintro e9 wz ⟨rfl,hbz⟩;have HBz:=A4 (bel HB7.out hbz);clear hbz));refine bodyPost_ret (by simp[results,results6,go_sem, *];try rfl) rfl ?_;exact⟨by first|rfl|simp,HBz.out⟩
end Go.Proofs.Ytheanilpbnencaa
