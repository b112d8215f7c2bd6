import Derived.Test.YtnlgkkbmbijndaaGreatEnco25
import Derived.Deep.DeepCutAuto
import Derived.Test.YtnlgkkbmbijndaaGreatEnco1
namespace Go.Proofs.YtnlgkkbmbijndaaGreat
open Go.RowKit Go.Proofs.Tryz
set_option linter.all false
set_option maxRecDepth 100000
set_option maxHeartbeats 16000000
theorem El(v0 v1 v2 v3:Value)(c:Cd)(hk:Bd c)(w:World)(hv:CN w v0 v1 v2 v3 c):
 Calls prog 15 #[.agg #[v0,v1,v2,v3]] w fun e w'=>e=.returned (.tuple #[.int .i64 (Az c).1,.int .i64 (Az c).2])/\Below w.heap.size w w':=by
 by_cases h0:AQ c.sign=0
 .by_cases h1:16384<c.regs.length\/32768<c.list.length
  .have e:Az c=(181,-1):=by unfold Az BO;simp[h0,h1]
   rw[e];exact CZ v0 v1 v2 v3 c hk w hv 181 (.inr (.inl ⟨h0,h1,rfl⟩))
  .by_cases h2:4096<c.slots.length
   .have e:Az c=(180,-1):=by unfold Az BO;simp[h0,h1,h2]
    rw[e];exact CZ v0 v1 v2 v3 c hk w hv 180 (.inr (.inr ⟨h0,fun e=>h1 (.inl e),fun e=>h1 (.inr e),h2,rfl⟩))
   .refine Hn v0 v1 v2 v3 c hk w hv h0 oM oM oM _ _ ?_;have hA:BO c=if(Aq c&&Bi c)=true then 0 else 160:=by
     unfold BO;rw[if_neg (fun e=>e h0),if_neg h1,if_neg h2]
    unfold Az;rw[hA];by_cases h3:(Aq c&&Bi c)=true
    .rw[if_pos h3,if_pos h3,if_neg dE]
    .rw[if_neg h3,if_neg h3,if_pos dE]
 .have e:Az c=(AQ c.sign,-1):=by unfold Az BO;simp[h0]
  rw[e];exact CZ v0 v1 v2 v3 c hk w hv _ (.inl ⟨h0,rfl⟩)
theorem Ho(v0 v1 v2 v3:Value)(c:Cd)(hk:Bd c)(w:World)(hv:CN w v0 v1 v2 v3 c)(hc:(Az c).1≠0):
 Calls prog 9 #[.agg #[v0,v1,v2,v3]] w fun e w'=>e=.returned (.tuple #[.string ⟨#[]⟩,.int .i64 (Az c).1])/\Below w.heap.size w w':=by
 obtain⟨p0,q0,rfl⟩:∃p q,v0=.slice p c.sign.length q:=by obtain⟨p,q,e,_⟩:=hv.sign;exact⟨p,q,e⟩
 obtain⟨p1,q1,rfl⟩:∃p q,v1=.slice p c.regs.length q:=by obtain⟨p,q,e,_⟩:=hv.regs;exact⟨p,q,e⟩
 obtain⟨p2,q2,rfl⟩:∃p q,v2=.slice p c.slots.length q:=by obtain⟨p,q,e,_⟩:=hv.slots;exact⟨p,q,e⟩
 obtain⟨p3,q3,rfl⟩:∃p q,v3=.slice p c.list.length q:=by obtain⟨p,q,e,_⟩:=hv.list;exact⟨p,q,e⟩
 obtain⟨X,hX⟩:=gA (w.heap.size)
 obtain⟨W0,hW0⟩:∃W,w.alloc (.cells #[.slice p0 c.sign.length q0,.slice p1 c.regs.length q1,.slice p2 c.slots.length q2,.slice p3 c.list.length q3] 27)=W:=⟨_,rfl⟩
 have hb0:Below w.heap.size w W0:=by rw[<-hW0];exact A5 _ _
 have x0:W0.cell? ⟨X,0,none⟩=some (.slice p0 c.sign.length q0):=by rw[<-hW0,<-hX];simp[go_sem]
 have x1:W0.cell? ⟨X,1,none⟩=some (.slice p1 c.regs.length q1):=by rw[<-hW0,<-hX];simp[go_sem]
 have x2:W0.cell? ⟨X,2,none⟩=some (.slice p2 c.slots.length q2):=by rw[<-hW0,<-hX];simp[go_sem]
 have x3:W0.cell? ⟨X,3,none⟩=some (.slice p3 c.list.length q3):=by rw[<-hW0,<-hX];simp[go_sem]
 have KC:=A6 (El _ _ _ _ c hk W0 (hv.below hb0));obtain⟨e1,he1⟩:∃e,(Az c).1=e:=⟨_,rfl⟩
 obtain⟨e2,he2⟩:∃e,(Az c).2=e:=⟨_,rfl⟩
 rw[he1,he2]at KC;rw[he1]at hc |-;have s1:(e1==0)=false:=by simpa using hc
 have s2:(e1 != 0)=true:=by simpa using hc
 have HB0:=A6 hb0;clear hb0 hv hc he1 he2;go_enter func9,ntmps9;go_upto_region 1 with fail;try rw[hW0]
 try rw[hX]
 clear hW0 hX;go_wp2_with(go_at_call 15;(with_reducible refine KC.out.mono ?_);rintro e9 w4 ⟨rfl,hb4⟩;have HB4:=A6 (bel HB0.out hb4);clear hb4);refine bodyPost_ret (by simp[results,results9,go_sem, *];try rfl) rfl ?_;exact⟨rfl,HB4.out⟩
theorem Ec{α:Type}(e:α->List Nat)(P:List Nat)(l:List α):(P++Ak l.length)++(l.take l.length).flatMap e=P++An e l:=by
 rw[List.take_length,List.append_assoc];rfl
theorem F7{α:Type}{e:α->List Nat}{P:List Nat}{l:List α}{m:Nat}(h:(P++An e l).length<=m)(k:Nat):((P++Ak l.length)++(l.take k).flatMap e).length<=m:=by
 have h4:l.flatMap e=(l.take k).flatMap e++(l.drop k).flatMap e:=by rw[<-List.flatMap_append,List.take_append_drop]
 unfold An at h;rw[h4]at h;simp only[List.length_append]at h |-;omega
theorem GD(v0 v1 v2 v3:Value)(c:Cd)(hk:Bd c)(w:World)(hv:CN w v0 v1 v2 v3 c)(hc:(Az c).1=0):
 Calls prog 9 #[.agg #[v0,v1,v2,v3]] w fun e w'=>e=.returned (.tuple #[.string (AT (BB c)),.int .i64 0])/\Below w.heap.size w w':=by
 obtain⟨p0,q0,rfl⟩:∃p q,v0=.slice p c.sign.length q:=by obtain⟨p,q,e,_⟩:=hv.sign;exact⟨p,q,e⟩
 obtain⟨p1,q1,rfl⟩:∃p q,v1=.slice p c.regs.length q:=by obtain⟨p,q,e,_⟩:=hv.regs;exact⟨p,q,e⟩
 obtain⟨p2,q2,rfl⟩:∃p q,v2=.slice p c.slots.length q:=by obtain⟨p,q,e,_⟩:=hv.slots;exact⟨p,q,e⟩
 obtain⟨p3,q3,rfl⟩:∃p q,v3=.slice p c.list.length q:=by obtain⟨p,q,e,_⟩:=hv.list;exact⟨p,q,e⟩
 have hok:=Fh hk.sbits hk.ibits hc;have hel:=Kg hok;obtain⟨X,hX⟩:=gA (w.heap.size)
 obtain⟨W0,hW0⟩:∃W,w.alloc (.cells #[.slice p0 c.sign.length q0,.slice p1 c.regs.length q1,.slice p2 c.slots.length q2,.slice p3 c.list.length q3] 27)=W:=⟨_,rfl⟩
 have hb0:Below w.heap.size w W0:=by rw[<-hW0];exact A5 _ _
 have x0:W0.cell? ⟨X,0,none⟩=some (.slice p0 c.sign.length q0):=by rw[<-hW0,<-hX];simp[go_sem]
 have x1:W0.cell? ⟨X,1,none⟩=some (.slice p1 c.regs.length q1):=by rw[<-hW0,<-hX];simp[go_sem]
 have x2:W0.cell? ⟨X,2,none⟩=some (.slice p2 c.slots.length q2):=by rw[<-hW0,<-hX];simp[go_sem]
 have x3:W0.cell? ⟨X,3,none⟩=some (.slice p3 c.list.length q3):=by rw[<-hW0,<-hX];simp[go_sem]
 have HX:=A6 (fun(u:World) (h:Below W0.heap.size W0 u)=>(⟨kc h x0,kc h x1,kc h x2,kc h x3⟩:u.cell? ⟨X,0,none⟩=some (.slice p0 c.sign.length q0)/\u.cell? ⟨X,1,none⟩=some (.slice p1 c.regs.length q1)/\u.cell? ⟨X,2,none⟩=some (.slice p2 c.slots.length q2)/\u.cell? ⟨X,3,none⟩=some (.slice p3 c.list.length q3)));have hv0:=hv.below hb0;have HV:=A6 (fun(u:World) (h:Below W0.heap.size W0 u)=>hv0.below h);have KC:=A6 (El _ _ _ _ c hk W0 hv0);rw[hc]at KC;obtain⟨e2,he2⟩:∃e,(Az c).2=e:=⟨_,rfl⟩
 rw[he2]at KC;have HB0:=A6 hb0;have hbl:(((DQ++An AS c.sign)++An BL c.regs)++An C5 c.slots++An Bf c.list).length<=3000004:=by
  unfold Bv at hel;simp only[List.length_append]at hel |-;show 4+_+_+_+_<=_;omega
 have hp0:(DQ++An AS c.sign).length<=3000004:=by simp only[List.length_append]at hbl |-;omega
 have hp1:((DQ++An AS c.sign)++An BL c.regs).length<=3000004:=by simp only[List.length_append]at hbl |-;omega
 have hp2:(((DQ++An AS c.sign)++An BL c.regs)++An C5 c.slots).length<=3000004:=by simp only[List.length_append]at hbl |-;omega
 have hp3:((((DQ++An AS c.sign)++An BL c.regs)++An C5 c.slots)++An Bf c.list).length<=3000004:=by simp only[List.length_append]at hbl |-;omega
 have HL0:=A6 (F7 (P:=DQ) (e:=AS) (l:=c.sign) hp0);have HE0:=A6 (Ec AS (DQ) c.sign);have HL1:=A6 (F7 (P:=DQ++An AS c.sign) (e:=BL) (l:=c.regs) hp1);have HE1:=A6 (Ec BL (DQ++An AS c.sign) c.regs);have HL2:=A6 (F7 (P:=(DQ++An AS c.sign)++An BL c.regs) (e:=C5) (l:=c.slots) hp2);have HE2:=A6 (Ec C5 ((DQ++An AS c.sign)++An BL c.regs) c.slots);have HL3:=A6 (F7 (P:=((DQ++An AS c.sign)++An BL c.regs)++An C5 c.slots) (e:=Bf) (l:=c.list) hp3);have HE3:=A6 (Ec Bf (((DQ++An AS c.sign)++An BL c.regs)++An C5 c.slots) c.list);have HBD:Hid ((((DQ++An AS c.sign)++An BL c.regs)++An C5 c.slots)++An Bf c.list=B2 c):=by show _=_;unfold B2 Bv;simp only[List.append_assoc]
 obtain⟨P0,hP0⟩:∃P,DQ++Ak c.sign.length=P:=⟨_,rfl⟩
 rw[hP0]at HL0 HE0;have HP0:=A6 hP0;obtain⟨P1,hP1⟩:∃P,(DQ++An AS c.sign)++Ak c.regs.length=P:=⟨_,rfl⟩
 rw[hP1]at HL1 HE1;have HP1:=A6 hP1;obtain⟨P2,hP2⟩:∃P,((DQ++An AS c.sign)++An BL c.regs)++Ak c.slots.length=P:=⟨_,rfl⟩
 rw[hP2]at HL2 HE2;have HP2:=A6 hP2;obtain⟨P3,hP3⟩:∃P,(((DQ++An AS c.sign)++An BL c.regs)++An C5 c.slots)++Ak c.list.length=P:=⟨_,rfl⟩
 rw[hP3]at HL3 HE3;have HP3:=A6 hP3;obtain⟨S0,hS0⟩:∃S,AT P0=S:=⟨_,rfl⟩
 obtain⟨T0,hT0⟩:∃S,AT (Ak c.sign.length)=S:=⟨_,rfl⟩
 obtain⟨R0,hR0⟩:∃S,AT (DQ++An AS c.sign)=S:=⟨_,rfl⟩
 have KN0:=A6 (fun v=>AP c.sign.length (by have:=hok.1.1;omega) v);rw[hT0]at KN0;have zT0:T0.size<=9:=by rw[<-hT0,Af];exact Al (by have:=hok.1.1;omega)
 have zR0:R0.size<=3000004:=by rw[<-hR0,Af];exact hp0
 have cat0:(⟨#[108,116,104,49]⟩:ByteArray)++T0=S0:=by rw[<-hS0,<-hT0,<-hP0,B0];rfl
 have zc0:¬9223372036854775807<(⟨#[108,116,104,49]⟩:ByteArray).size+T0.size:=by show¬_<4+T0.size;omega
 obtain⟨G0,hG0⟩:∃G:Nat->ByteArray,(fun k=>AT (P0++(c.sign.take k).flatMap AS))=G:=⟨_,rfl⟩
 have HG0:Hid (G0 0=S0/\G0 c.sign.length=R0/\(∀k (hk:k<c.sign.length),G0 k++AT (AS c.sign[k])=G0 (k+1))/\∀k,(G0 k).size<=3000004):=by
  rw[<-hG0];refine⟨by simp only[List.take_zero,List.flatMap_nil,List.append_nil];exact hS0,by simp only[HE0.out];exact hR0,fun k hk=>?_,fun k=>by simp only[Af];exact HL0.out k⟩;simp only[BA AS hk];exact Qf
 obtain⟨S1,hS1⟩:∃S,AT P1=S:=⟨_,rfl⟩
 obtain⟨T1,hT1⟩:∃S,AT (Ak c.regs.length)=S:=⟨_,rfl⟩
 obtain⟨R1,hR1⟩:∃S,AT ((DQ++An AS c.sign)++An BL c.regs)=S:=⟨_,rfl⟩
 have KN1:=A6 (fun v=>AP c.regs.length (by have:=hok.2.1.1;omega) v);rw[hT1]at KN1;have zT1:T1.size<=9:=by rw[<-hT1,Af];exact Al (by have:=hok.2.1.1;omega)
 have zR1:R1.size<=3000004:=by rw[<-hR1,Af];exact hp1
 have cat1:R0++T1=S1:=by rw[<-hS1,<-hT1,<-hR0,<-hP1];exact(B0 _ _).symm
 have zc1:¬9223372036854775807<R0.size+T1.size:=oM;obtain⟨G1,hG1⟩:∃G:Nat->ByteArray,(fun k=>AT (P1++(c.regs.take k).flatMap BL))=G:=⟨_,rfl⟩
 have HG1:Hid (G1 0=S1/\G1 c.regs.length=R1/\(∀k (hk:k<c.regs.length),G1 k++AT (BL c.regs[k])=G1 (k+1))/\∀k,(G1 k).size<=3000004):=by
  rw[<-hG1];refine⟨by simp only[List.take_zero,List.flatMap_nil,List.append_nil];exact hS1,by simp only[HE1.out];exact hR1,fun k hk=>?_,fun k=>by simp only[Af];exact HL1.out k⟩;simp only[BA BL hk];exact Qf
 obtain⟨S2,hS2⟩:∃S,AT P2=S:=⟨_,rfl⟩
 obtain⟨T2,hT2⟩:∃S,AT (Ak c.slots.length)=S:=⟨_,rfl⟩
 obtain⟨R2,hR2⟩:∃S,AT (((DQ++An AS c.sign)++An BL c.regs)++An C5 c.slots)=S:=⟨_,rfl⟩
 have KN2:=A6 (fun v=>AP c.slots.length (by have:=hok.2.2.1.1;omega) v);rw[hT2]at KN2;have zT2:T2.size<=9:=by rw[<-hT2,Af];exact Al (by have:=hok.2.2.1.1;omega)
 have zR2:R2.size<=3000004:=by rw[<-hR2,Af];exact hp2
 have cat2:R1++T2=S2:=by rw[<-hS2,<-hT2,<-hR1,<-hP2];exact(B0 _ _).symm
 have zc2:¬9223372036854775807<R1.size+T2.size:=oM;obtain⟨G2,hG2⟩:∃G:Nat->ByteArray,(fun k=>AT (P2++(c.slots.take k).flatMap C5))=G:=⟨_,rfl⟩
 have HG2:Hid (G2 0=S2/\G2 c.slots.length=R2/\(∀k (hk:k<c.slots.length),G2 k++AT (C5 c.slots[k])=G2 (k+1))/\∀k,(G2 k).size<=3000004):=by
  rw[<-hG2];refine⟨by simp only[List.take_zero,List.flatMap_nil,List.append_nil];exact hS2,by simp only[HE2.out];exact hR2,fun k hk=>?_,fun k=>by simp only[Af];exact HL2.out k⟩;simp only[BA C5 hk];exact Qf
 obtain⟨S3,hS3⟩:∃S,AT P3=S:=⟨_,rfl⟩
 obtain⟨T3,hT3⟩:∃S,AT (Ak c.list.length)=S:=⟨_,rfl⟩
 obtain⟨R3,hR3⟩:∃S,AT (((DQ++An AS c.sign)++An BL c.regs)++An C5 c.slots++An Bf c.list)=S:=⟨_,rfl⟩
 have KN3:=A6 (fun v=>AP c.list.length (by have:=hok.2.2.2.1;omega) v);rw[hT3]at KN3;have zT3:T3.size<=9:=by rw[<-hT3,Af];exact Al (by have:=hok.2.2.2.1;omega)
 have zR3:R3.size<=3000004:=by rw[<-hR3,Af];exact hp3
 have cat3:R2++T3=S3:=by rw[<-hS3,<-hT3,<-hR2,<-hP3];exact(B0 _ _).symm
 have zc3:¬9223372036854775807<R2.size+T3.size:=oM;obtain⟨G3,hG3⟩:∃G:Nat->ByteArray,(fun k=>AT (P3++(c.list.take k).flatMap Bf))=G:=⟨_,rfl⟩
 have HG3:Hid (G3 0=S3/\G3 c.list.length=R3/\(∀k (hk:k<c.list.length),G3 k++AT (Bf c.list[k])=G3 (k+1))/\∀k,(G3 k).size<=3000004):=by
  rw[<-hG3];refine⟨by simp only[List.take_zero,List.flatMap_nil,List.append_nil];exact hS3,by simp only[HE3.out];exact hR3,fun k hk=>?_,fun k=>by simp only[Af];exact HL3.out k⟩;simp only[BA Bf hk];exact Qf
 have KPR:=A6 (fun v=>IQ R3 oM v);have hbR:Aa R3=B2 c:=by rw[<-hR3,HBD.out,CG (E8 hok)]
 rw[hbR]at KPR;have hcl:=Ig (E8 hok);obtain⟨CP,hCP⟩:∃C,I1 (B2 c)=C:=⟨_,rfl⟩
 rw[hCP]at KPR hcl;have KLW:Hid (∀v,Calls prog 22 #[.int .u64 (CP:Int),.int .i64 8] v fun e w'=>e=.returned (.string (AT (AK 8 CP)))/\Below v.heap.size v w'):=fun v=>FE CP oM 8 dE dE v;obtain⟨TC,hTC⟩:∃T,AT (AK 8 CP)=T:=⟨_,rfl⟩
 rw[hTC]at KLW;have zTC:TC.size=8:=by rw[<-hTC,Af,AN]
 have zcF:¬9223372036854775807<R3.size+TC.size:=oM;have HFIN:Hid (AT (BB c)=R3++TC):=by show _=_;unfold BB;rw[B0,hCP,hTC,<-HBD.out,hR3]
 have HOK:=A6 hok;clear hb0 hv hv0 hc he2 hel hbl hp0 hp1 hp2 hp3 hok hcl hCP hTC hbR hP0 hS0 hT0 hR0 hG0 HL0 HE0 HP0 hP1 hS1 hT1 hR1 hG1 HL1 HE1 HP1 hP2 hS2 hT2 hR2 hG2 HL2 HE2 HP2 hP3 hS3 hT3 hR3 hG3 HL3 HE3 HP3 HBD;go_enter func9,ntmps9;go_upto_region 1 with fail;try rw[hW0]
 try rw[hX]
 clear hW0 hX;go_upto_region 4 with(go_at_call 15;(with_reducible refine KC.out.mono ?_);rintro e9 wA ⟨rfl,hbA⟩;have HJ:Hid (Below W0.heap.size W0 wA):=hbA;clear hbA)
 obtain⟨b0,b1,b2,b3⟩:=HX.out wA HJ.out;clear x0 x1 x2 x3 KC;go_upto_block 0 with(go_at_call 20;(with_reducible refine(KN0.out _).mono ?_);rintro e9 wB0 ⟨rfl,hbB⟩;have HJ0:Hid (Below W0.heap.size W0 wB0):=bel HJ.out hbB;clear hbB)
 clear b0 b1 b2 b3 HJ;go_cut [6,7] (fun sv kv wx=>sv=.string R0/\Hid (Below W0.heap.size W0 wx))
 case first=>
  obtain⟨b0,b1,b2,b3⟩:=HX.out _ HJ0.out;go_wp2_with fail;clear b0 b1 b2 b3
  go_loopw [6,7] (fun sv kv wx=>∃k:Nat,k<=c.sign.length/\kv=.int .i64 (k:Int)/\sv=.string (G0 k)/\Hid (Below W0.heap.size W0 wx)) (fun _ kv _=>c.sign.length-(intOf kv).toNat)
  case atStart=>exact⟨0,gI _,rfl,by rw[HG0.1],HJ0.out⟩
  case round=>
   obtain⟨k,hk',rfl,rfl,HJ⟩:=hrel;obtain⟨b0,b1,b2,b3⟩:=HX.out wr HJ.out;by_cases hlt:k<c.sign.length
   .have hx:=HOK.1.2 c.sign[k] (gD hlt);obtain⟨rb,ro,rfl,hcl⟩:=(HV.out wr HJ.out).sign.at hlt;have hst:=HG0.2.2.1 k hlt;have zG:=HG0.2.2.2 k;obtain⟨x,hxe⟩:=gA (c.sign[k])
    rw[hxe]at hcl hx hst;have y0:=hcl.at 0 (v:=.string x.name) rfl;rw[Nat.add_zero]at y0;have y1:=hcl.at 1 (v:=.int .i64 x.kind) rfl;have y2:=hcl.at 2 (v:=.int .i64 x.len) rfl;obtain⟨nm,kd,ln⟩:=x;obtain⟨g1,g2,g3,g4,g5⟩:=hx;simp only at y0 y1 y2 g1 g2 g3 g4 g5;obtain⟨KD,rfl⟩:∃K:Nat,kd=(K:Int):=⟨kd.toNat,oM⟩
    obtain⟨LN',rfl⟩:∃K:Nat,ln=(K:Int):=⟨ln.toNat,oM⟩
    have llb:rb<wr.heap.size:=Ae y0;obtain⟨BX,hBX⟩:∃B,wr.heap.size=B:=⟨_,rfl⟩
    obtain⟨V,hV⟩:=gA (wr.alloc (.cells #[.string nm,.int .i64 (KD:Int),.int .i64 (LN':Int)] 59))
    have hbV:Below wr.heap.size wr V:=by rw[<-hV];exact A5 _ _
    have n9:¬rb=wr.heap.size:=oM;have z0:V.cell? ⟨BX,0,none⟩=some (.string nm):=by rw[<-hV,<-hBX];simp[go_sem]
    have z1:V.cell? ⟨BX,1,none⟩=some (.int .i64 (KD:Int)):=by rw[<-hV,<-hBX];simp[go_sem]
    have z2:V.cell? ⟨BX,2,none⟩=some (.int .i64 (LN':Int)):=by rw[<-hV,<-hBX];simp[go_sem]
    have zk0:∀o,(V.alloc o).cell? ⟨BX,0,none⟩=some (.string nm):=fun o=>kc (A5 _ _) z0;have zk1:∀o,(V.alloc o).cell? ⟨BX,1,none⟩=some (.int .i64 (KD:Int)):=fun o=>kc (A5 _ _) z1;have zk2:∀o,(V.alloc o).cell? ⟨BX,2,none⟩=some (.int .i64 (LN':Int)):=fun o=>kc (A5 _ _) z2;obtain⟨NL,hNL⟩:∃n,nm.size=n:=⟨_,rfl⟩
    have KNL:=A6 (fun v=>AP NL oM v);have KNN:=A6 (fun v=>AP LN' oM v);have HKD:Hid (KD<256):=by show KD<256;omega
    have w1:IntKind.u8.wrap (KD:Int)=(KD:Int):=by rw[IntKind.wrap_u8'];omega
    obtain⟨TK,hTK⟩:∃T,AT [KD]=T:=⟨_,rfl⟩
    obtain⟨TL,hTL⟩:∃T,AT (Ak NL)=T:=⟨_,rfl⟩
    obtain⟨TN,hTN⟩:∃T,AT (Ak LN')=T:=⟨_,rfl⟩
    have HTK:=A6 hTK;have hc1:=fun(V:World)=>Dp V KD HKD.out;simp only[hTK]at hc1;have hcA:=DC (u:=(V.alloc (.cells #[.int .u8 (KD:Int)] 5)).drew) (g:=V.heap.size) KD HKD.out sG;rw[hTK]at hcA;rw[hTL]at KNL;rw[hTN]at KNN;have hpe:AT (AS ⟨nm,(KD:Int),(LN':Int)⟩)=TK++((TL++nm)++TN):=by
     unfold AS EW;simp only[Int.toNat_natCast,CI rfl];rw[B0,B0,B0,hTK,Dv,hNL,hTL,hTN]
    rw[hpe]at hst;have cc:∃A1 A2 A3:ByteArray,G0 k++TK=A1/\A1++TL=A2/\A2++nm=A3/\A3++TN=G0 (k+1)/\A1.size<=3000005/\A2.size<=3000014/\A3.size<=3000100:=by
     have zTK:TK.size=1:=by rw[<-hTK,Af];rfl
     have zTL:TL.size<=9:=by rw[<-hTL,Af];exact Al oM
     refine⟨_,_,_,rfl,rfl,rfl,by rw[<-hst];simp only[ByteArray.append_assoc],?_,?_,?_⟩<;>simp only[ByteArray.size_append]<;>omega
    obtain⟨A1,A2,A3,c1,c2,c3,c4,zA1,zA2,zA3⟩:=cc;have h1:¬9223372036854775807<(G0 k).size+TK.size:=by
     have zTK:TK.size=1:=by rw[<-hTK,Af];rfl
     omega
    have h2:¬9223372036854775807<A1.size+TL.size:=by
     have zTL:TL.size<=9:=by rw[<-hTL,Af];exact Al oM
     omega
    have h3:¬9223372036854775807<A2.size+NL:=oM;have h4:¬9223372036854775807<A3.size+TN.size:=by
     have zTN:TN.size<=9:=by rw[<-hTN,Af];exact Al oM
     omega
    obtain⟨N,hN⟩:=gA (c.sign.length)
    have i1:(0:Int)<=(k:Int):=oM;have i2:(k:Int)<(N:Int):=oM;have HNk:Hid (k+1<=c.sign.length):=by show _<=_;omega
    have hNb:N<=40000:=by have:=HOK.out;unfold BI at this;omega
    have wi:IntKind.i64.wrap ((k:Int)+1)=((k+1:Nat):Int):=by rw[IntKind.wrap_i64];omega
    rw[hN]at b0;have HBW:Hid (Below W0.heap.size W0 V):=bel HJ.out hbV;have HHV:=A6 hV;clear hcl hxe hpe hTK hTL hTN hlt hk' hN hV hbV hst g1 g2 g3 g4 g5 zG zA1 zA2 zA3;go_upto_region 9 with fail;rw[HHV.out];try rw[hBX]
    clear y0 y1 y2 hBX n9 llb b0 b1 b2 b3 HHV;refine rG (fun v=>v.cell? ⟨BX,0,none⟩=some (.string nm)/\v.cell? ⟨BX,1,none⟩=some (.int .i64 (KD:Int))/\v.cell? ⟨BX,2,none⟩=some (.int .i64 (LN':Int))) fun hJ=>?_;refine wpAnyH_take (i:=0) (v:=?_) A7 kR kR kR A8 (Or.inl ⟨rF,?_⟩) A9 ?_
    rotate_left 1
    ·(intro wS hSw;(try dsimp only at hSw);go_simp;try(with_reducible rfl))
    try simp only[Act.put,List.setIfInBounds_toArray,List.set_cons_zero,List.set_cons_succ]
    refine wpAnyH_take (i:=1) (v:=?_) A7 kR kR kR A8 (Or.inl ⟨rF,?_⟩) A9 ?_
    rotate_left 1
    ·(intro wS hSw;(try dsimp only at hSw);go_simp;try(with_reducible rfl))
    try simp only[Act.put,List.setIfInBounds_toArray,List.set_cons_zero,List.set_cons_succ]
    refine wpAnyH_take (i:=2) (v:=?_) A7 kR kR kR A8 (Or.inl ⟨rF,?_⟩) A9 ?_
    rotate_left 1
    ·(intro wS hSw;(try dsimp only at hSw);go_simp;try(with_reducible rfl))
    try simp only[Act.put,List.setIfInBounds_toArray,List.set_cons_zero,List.set_cons_succ]
    refine wpAnyH_take (i:=3) (v:=?_) A7 kR kR kR A8 (Or.inl ⟨rF,?_⟩) A9 ?_
    rotate_left 1
    ·(intro wS hSw;(try dsimp only at hSw);go_simp;try(with_reducible rfl))
    try simp only[Act.put,List.setIfInBounds_toArray,List.set_cons_zero,List.set_cons_succ]
    refine wpAnyH_take (i:=7) (v:=?_) A7 kR kR kR A8 (Or.inl ⟨rF,?_⟩) A9 ?_
    rotate_left 1
    ·(intro wS hSw;(try dsimp only at hSw);go_simp;try(with_reducible rfl))
    try simp only[Act.put,List.setIfInBounds_toArray,List.set_cons_zero,List.set_cons_succ]
    refine wpAnyH_take (i:=8) (v:=?_) A7 kR kR kR A8 (Or.inl ⟨rF,?_⟩) A9 ?_
    rotate_left 1
    ·(intro wS hSw;(try dsimp only at hSw);go_simp;try(with_reducible rfl))
    try simp only[Act.put,List.setIfInBounds_toArray,List.set_cons_zero,List.set_cons_succ]
    refine wpAnyH_take (i:=9) (v:=?_) A7 kR kR kR A8 (Or.inl ⟨rF,?_⟩) A9 ?_
    rotate_left 1
    ·(intro wS hSw;(try dsimp only at hSw);go_simp;try(with_reducible rfl))
    try simp only[Act.put,List.setIfInBounds_toArray,List.set_cons_zero,List.set_cons_succ]
    refine wpAnyH_take (i:=12) (v:=?_) A7 kR kR kR A8 (Or.inl ⟨rF,?_⟩) A9 ?_
    rotate_left 1
    ·(intro wS hSw;(try dsimp only at hSw);go_simp;try(with_reducible rfl))
    try simp only[Act.put,List.setIfInBounds_toArray,List.set_cons_zero,List.set_cons_succ]
    refine wpAnyH_take (i:=13) (v:=?_) A7 kR kR kR A8 (Or.inl ⟨rF,?_⟩) A9 ?_
    rotate_left 1
    ·(intro wS hSw;(try dsimp only at hSw);go_simp;try(with_reducible rfl))
    try simp only[Act.put,List.setIfInBounds_toArray,List.set_cons_zero,List.set_cons_succ]
    refine wpAnyH_take (i:=15) (v:=?_) A7 kR kR kR A8 (Or.inl ⟨rF,?_⟩) A9 ?_
    rotate_left 1
    ·(intro wS hSw;(try dsimp only at hSw);go_simp;try(with_reducible rfl))
    try simp only[Act.put,List.setIfInBounds_toArray,List.set_cons_zero,List.set_cons_succ]
    refine wpAnyH_take (i:=16) (v:=?_) A7 kR kR kR A8 (Or.inl ⟨rF,?_⟩) A9 ?_
    rotate_left 1
    ·(intro wS hSw;(try dsimp only at hSw);go_simp;try(with_reducible rfl))
    try simp only[Act.put,List.setIfInBounds_toArray,List.set_cons_zero,List.set_cons_succ]
    clear hJ;refine wpAnyH_ready (rs:=[4,10]) kR sM ?_;refine Gk 4 (fun K hK=>?_) ?_
    .go_simp;refine AX hK fun hJ=>?_;clear hK K;clear hJ;refine wpAnyH_ready (rs:=[5,10]) kR sM ?_;refine Gk 5 (fun K hK=>?_) ?_
     .go_simp;refine AX hK fun hJ=>?_;clear hK K;refine wpAnyH_take (i:=6) (v:=?_) A7 kR kR kR A8 (Or.inl ⟨rF,?_⟩) A9 ?_
      rotate_left 1
      ·(intro wS hSw;(try dsimp only at hSw);go_simp;try(with_reducible rfl))
      try simp only[Act.put,List.setIfInBounds_toArray,List.set_cons_zero,List.set_cons_succ]
      clear hJ;refine AR 10 fun K hK=>?_;go_simp;(go_at_call 20;(with_reducible refine(KNL.out _).mono ?_);rintro e9 w5 ⟨rfl,hb5⟩;have hbb5:Below V.heap.size V w5:=bel ((A5 _ _).drew) hb5;have wc50:w5.cell? ⟨BX,0,none⟩=some (.string nm):=kc hbb5 z0;have wc51:w5.cell? ⟨BX,1,none⟩=some (.int .i64 (KD:Int)):=kc hbb5 z1;have wc52:w5.cell? ⟨BX,2,none⟩=some (.int .i64 (LN':Int)):=kc hbb5 z2;have wk50:∀o,(w5.alloc o).cell? ⟨BX,0,none⟩=some (.string nm):=fun o=>kc (A5 _ _) wc50;have wk51:∀o,(w5.alloc o).cell? ⟨BX,1,none⟩=some (.int .i64 (KD:Int)):=fun o=>kc (A5 _ _) wc51;have wk52:∀o,(w5.alloc o).cell? ⟨BX,2,none⟩=some (.int .i64 (LN':Int)):=fun o=>kc (A5 _ _) wc52;have HB5:=A6 hbb5;have hq5:w5.cell? ⟨V.heap.size,0,none⟩=some (.int .u8 (KD:Int)):=kc hb5 (show((V.alloc (.cells #[.int .u8 (KD:Int)] 5)).drew).cell? ⟨V.heap.size,0,none⟩=some (.int .u8 (KD:Int)) by simp[go_sem]);clear hb5 hbb5);try(go_wp2_with fail)
      refine AX hK fun hJ=>?_;clear hK K;refine wpAnyH_take (i:=11) (v:=?_) A7 kR kR kR A8 (Or.inl ⟨rF,?_⟩) A9 ?_
      rotate_left 1
      ·(intro wS hSw;(try dsimp only at hSw);go_simp;try(with_reducible rfl))
      try simp only[Act.put,List.setIfInBounds_toArray,List.set_cons_zero,List.set_cons_succ]
      refine wpAnyH_take (i:=14) (v:=?_) A7 kR kR kR A8 (Or.inl ⟨rF,?_⟩) A9 ?_
      rotate_left 1
      ·(intro wS hSw;(try dsimp only at hSw);go_simp;try(with_reducible rfl))
      try simp only[Act.put,List.setIfInBounds_toArray,List.set_cons_zero,List.set_cons_succ]
      clear hJ;refine AR 17 fun K hK=>?_;go_simp;(go_at_call 20;(with_reducible refine(KNN.out _).mono ?_);rintro e9 w6 ⟨rfl,hb6⟩;have hbb6:Below V.heap.size V w6:=bel HB5.out hb6;have wc60:w6.cell? ⟨BX,0,none⟩=some (.string nm):=kc hbb6 z0;have wc61:w6.cell? ⟨BX,1,none⟩=some (.int .i64 (KD:Int)):=kc hbb6 z1;have wc62:w6.cell? ⟨BX,2,none⟩=some (.int .i64 (LN':Int)):=kc hbb6 z2;have wk60:∀o,(w6.alloc o).cell? ⟨BX,0,none⟩=some (.string nm):=fun o=>kc (A5 _ _) wc60;have wk61:∀o,(w6.alloc o).cell? ⟨BX,1,none⟩=some (.int .i64 (KD:Int)):=fun o=>kc (A5 _ _) wc61;have wk62:∀o,(w6.alloc o).cell? ⟨BX,2,none⟩=some (.int .i64 (LN':Int)):=fun o=>kc (A5 _ _) wc62;have HB6:=A6 hbb6;clear hb6 hbb6);try(go_wp2_with fail)
      refine AX hK fun hJ=>?_;clear hK K;exact Pv
     refine Gk 10 (fun K hK=>?_) AllReadyH.nil;go_simp;(go_at_call 20;(with_reducible refine(KNL.out _).mono ?_);rintro e9 w5 ⟨rfl,hb5⟩;have hbb5:Below V.heap.size V w5:=bel ((A5 _ _).drew) hb5;have wc50:w5.cell? ⟨BX,0,none⟩=some (.string nm):=kc hbb5 z0;have wc51:w5.cell? ⟨BX,1,none⟩=some (.int .i64 (KD:Int)):=kc hbb5 z1;have wc52:w5.cell? ⟨BX,2,none⟩=some (.int .i64 (LN':Int)):=kc hbb5 z2;have wk50:∀o,(w5.alloc o).cell? ⟨BX,0,none⟩=some (.string nm):=fun o=>kc (A5 _ _) wc50;have wk51:∀o,(w5.alloc o).cell? ⟨BX,1,none⟩=some (.int .i64 (KD:Int)):=fun o=>kc (A5 _ _) wc51;have wk52:∀o,(w5.alloc o).cell? ⟨BX,2,none⟩=some (.int .i64 (LN':Int)):=fun o=>kc (A5 _ _) wc52;have HB5:=A6 hbb5;have hq5:w5.cell? ⟨V.heap.size,0,none⟩=some (.int .u8 (KD:Int)):=kc hb5 (show((V.alloc (.cells #[.int .u8 (KD:Int)] 5)).drew).cell? ⟨V.heap.size,0,none⟩=some (.int .u8 (KD:Int)) by simp[go_sem]);have hcv5:=DC KD HKD.out hq5;rw[HTK.out]at hcv5;clear hb5 hbb5);try(go_wp2_with fail)
     refine AX hK fun hJ=>?_;clear hK K;clear hJ;refine wpAnyH_ready (rs:=[5,17]) kR sM ?_;refine Gk 5 (fun K hK=>?_) ?_
     .go_simp;refine AX hK fun hJ=>?_;clear hK K;refine wpAnyH_take (i:=6) (v:=?_) A7 kR kR kR A8 (Or.inl ⟨rF,?_⟩) A9 ?_
      rotate_left 1
      ·(intro wS hSw;(try dsimp only at hSw);go_simp;try(with_reducible rfl))
      try simp only[Act.put,List.setIfInBounds_toArray,List.set_cons_zero,List.set_cons_succ]
      refine wpAnyH_take (i:=11) (v:=?_) A7 kR kR kR A8 (Or.inl ⟨rF,?_⟩) A9 ?_
      rotate_left 1
      ·(intro wS hSw;(try dsimp only at hSw);go_simp;try(with_reducible rfl))
      try simp only[Act.put,List.setIfInBounds_toArray,List.set_cons_zero,List.set_cons_succ]
      refine wpAnyH_take (i:=14) (v:=?_) A7 kR kR kR A8 (Or.inl ⟨rF,?_⟩) A9 ?_
      rotate_left 1
      ·(intro wS hSw;(try dsimp only at hSw);go_simp;try(with_reducible rfl))
      try simp only[Act.put,List.setIfInBounds_toArray,List.set_cons_zero,List.set_cons_succ]
      clear hJ;refine AR 17 fun K hK=>?_;go_simp;(go_at_call 20;(with_reducible refine(KNN.out _).mono ?_);rintro e9 w6 ⟨rfl,hb6⟩;have hbb6:Below V.heap.size V w6:=bel HB5.out hb6;have wc60:w6.cell? ⟨BX,0,none⟩=some (.string nm):=kc hbb6 z0;have wc61:w6.cell? ⟨BX,1,none⟩=some (.int .i64 (KD:Int)):=kc hbb6 z1;have wc62:w6.cell? ⟨BX,2,none⟩=some (.int .i64 (LN':Int)):=kc hbb6 z2;have wk60:∀o,(w6.alloc o).cell? ⟨BX,0,none⟩=some (.string nm):=fun o=>kc (A5 _ _) wc60;have wk61:∀o,(w6.alloc o).cell? ⟨BX,1,none⟩=some (.int .i64 (KD:Int)):=fun o=>kc (A5 _ _) wc61;have wk62:∀o,(w6.alloc o).cell? ⟨BX,2,none⟩=some (.int .i64 (LN':Int)):=fun o=>kc (A5 _ _) wc62;have HB6:=A6 hbb6;clear hb6 hbb6);try(go_wp2_with fail)
      refine AX hK fun hJ=>?_;clear hK K;exact Pv
     refine Gk 17 (fun K hK=>?_) AllReadyH.nil;go_simp;(go_at_call 20;(with_reducible refine(KNN.out _).mono ?_);rintro e9 w6 ⟨rfl,hb6⟩;have hbb6:Below V.heap.size V w6:=bel HB5.out hb6;have wc60:w6.cell? ⟨BX,0,none⟩=some (.string nm):=kc hbb6 z0;have wc61:w6.cell? ⟨BX,1,none⟩=some (.int .i64 (KD:Int)):=kc hbb6 z1;have wc62:w6.cell? ⟨BX,2,none⟩=some (.int .i64 (LN':Int)):=kc hbb6 z2;have wk60:∀o,(w6.alloc o).cell? ⟨BX,0,none⟩=some (.string nm):=fun o=>kc (A5 _ _) wc60;have wk61:∀o,(w6.alloc o).cell? ⟨BX,1,none⟩=some (.int .i64 (KD:Int)):=fun o=>kc (A5 _ _) wc61;have wk62:∀o,(w6.alloc o).cell? ⟨BX,2,none⟩=some (.int .i64 (LN':Int)):=fun o=>kc (A5 _ _) wc62;have HB6:=A6 hbb6;have hcv6:=DC KD HKD.out (kc hb6 hq5);rw[HTK.out]at hcv6;clear hb6 hbb6);try(go_wp2_with fail)
     refine AX hK fun hJ=>?_;clear hK K;clear hJ;refine AR 5 fun K hK=>?_;go_simp;refine AX hK fun hJ=>?_;clear hK K;refine wpAnyH_take (i:=6) (v:=?_) A7 kR kR kR A8 (Or.inl ⟨rF,?_⟩) A9 ?_
     rotate_left 1
     ·(intro wS hSw;(try dsimp only at hSw);go_simp;try(with_reducible rfl))
     try simp only[Act.put,List.setIfInBounds_toArray,List.set_cons_zero,List.set_cons_succ]
     refine wpAnyH_take (i:=11) (v:=?_) A7 kR kR kR A8 (Or.inl ⟨rF,?_⟩) A9 ?_
     rotate_left 1
     ·(intro wS hSw;(try dsimp only at hSw);go_simp;try(with_reducible rfl))
     try simp only[Act.put,List.setIfInBounds_toArray,List.set_cons_zero,List.set_cons_succ]
     refine wpAnyH_take (i:=14) (v:=?_) A7 kR kR kR A8 (Or.inl ⟨rF,?_⟩) A9 ?_
     rotate_left 1
     ·(intro wS hSw;(try dsimp only at hSw);go_simp;try(with_reducible rfl))
     try simp only[Act.put,List.setIfInBounds_toArray,List.set_cons_zero,List.set_cons_succ]
     exact Pv
    refine Gk 10 (fun K hK=>?_) AllReadyH.nil;go_simp;(go_at_call 20;(with_reducible refine(KNL.out _).mono ?_);rintro e9 w5 ⟨rfl,hb5⟩;have hbb5:Below V.heap.size V w5:=bel ((Below.refl _ _).drew) hb5;have wc50:w5.cell? ⟨BX,0,none⟩=some (.string nm):=kc hbb5 z0;have wc51:w5.cell? ⟨BX,1,none⟩=some (.int .i64 (KD:Int)):=kc hbb5 z1;have wc52:w5.cell? ⟨BX,2,none⟩=some (.int .i64 (LN':Int)):=kc hbb5 z2;have wk50:∀o,(w5.alloc o).cell? ⟨BX,0,none⟩=some (.string nm):=fun o=>kc (A5 _ _) wc50;have wk51:∀o,(w5.alloc o).cell? ⟨BX,1,none⟩=some (.int .i64 (KD:Int)):=fun o=>kc (A5 _ _) wc51;have wk52:∀o,(w5.alloc o).cell? ⟨BX,2,none⟩=some (.int .i64 (LN':Int)):=fun o=>kc (A5 _ _) wc52;have HB5:=A6 hbb5;clear hb5 hbb5);try(go_wp2_with fail)
    refine AX hK fun hJ=>?_;clear hK K;clear hJ;refine wpAnyH_ready (rs:=[4,17]) kR sM ?_;refine Gk 4 (fun K hK=>?_) ?_
    .go_simp;refine AX hK fun hJ=>?_;clear hK K;clear hJ;refine wpAnyH_ready (rs:=[5,17]) kR sM ?_;refine Gk 5 (fun K hK=>?_) ?_
     .go_simp;refine AX hK fun hJ=>?_;clear hK K;refine wpAnyH_take (i:=6) (v:=?_) A7 kR kR kR A8 (Or.inl ⟨rF,?_⟩) A9 ?_
      rotate_left 1
      ·(intro wS hSw;(try dsimp only at hSw);go_simp;try(with_reducible rfl))
      try simp only[Act.put,List.setIfInBounds_toArray,List.set_cons_zero,List.set_cons_succ]
      refine wpAnyH_take (i:=11) (v:=?_) A7 kR kR kR A8 (Or.inl ⟨rF,?_⟩) A9 ?_
      rotate_left 1
      ·(intro wS hSw;(try dsimp only at hSw);go_simp;try(with_reducible rfl))
      try simp only[Act.put,List.setIfInBounds_toArray,List.set_cons_zero,List.set_cons_succ]
      refine wpAnyH_take (i:=14) (v:=?_) A7 kR kR kR A8 (Or.inl ⟨rF,?_⟩) A9 ?_
      rotate_left 1
      ·(intro wS hSw;(try dsimp only at hSw);go_simp;try(with_reducible rfl))
      try simp only[Act.put,List.setIfInBounds_toArray,List.set_cons_zero,List.set_cons_succ]
      clear hJ;refine AR 17 fun K hK=>?_;go_simp;(go_at_call 20;(with_reducible refine(KNN.out _).mono ?_);rintro e9 w6 ⟨rfl,hb6⟩;have hbb6:Below V.heap.size V w6:=bel (bel HB5.out (A5 _ _)) hb6;have wc60:w6.cell? ⟨BX,0,none⟩=some (.string nm):=kc hbb6 z0;have wc61:w6.cell? ⟨BX,1,none⟩=some (.int .i64 (KD:Int)):=kc hbb6 z1;have wc62:w6.cell? ⟨BX,2,none⟩=some (.int .i64 (LN':Int)):=kc hbb6 z2;have wk60:∀o,(w6.alloc o).cell? ⟨BX,0,none⟩=some (.string nm):=fun o=>kc (A5 _ _) wc60;have wk61:∀o,(w6.alloc o).cell? ⟨BX,1,none⟩=some (.int .i64 (KD:Int)):=fun o=>kc (A5 _ _) wc61;have wk62:∀o,(w6.alloc o).cell? ⟨BX,2,none⟩=some (.int .i64 (LN':Int)):=fun o=>kc (A5 _ _) wc62;have HB6:=A6 hbb6;clear hb6 hbb6);try(go_wp2_with fail)
      refine AX hK fun hJ=>?_;clear hK K;exact Pv
     refine Gk 17 (fun K hK=>?_) AllReadyH.nil;go_simp;(go_at_call 20;(with_reducible refine(KNN.out _).mono ?_);rintro e9 w6 ⟨rfl,hb6⟩;have hbb6:Below V.heap.size V w6:=bel (bel HB5.out (A5 _ _)) hb6;have wc60:w6.cell? ⟨BX,0,none⟩=some (.string nm):=kc hbb6 z0;have wc61:w6.cell? ⟨BX,1,none⟩=some (.int .i64 (KD:Int)):=kc hbb6 z1;have wc62:w6.cell? ⟨BX,2,none⟩=some (.int .i64 (LN':Int)):=kc hbb6 z2;have wk60:∀o,(w6.alloc o).cell? ⟨BX,0,none⟩=some (.string nm):=fun o=>kc (A5 _ _) wc60;have wk61:∀o,(w6.alloc o).cell? ⟨BX,1,none⟩=some (.int .i64 (KD:Int)):=fun o=>kc (A5 _ _) wc61;have wk62:∀o,(w6.alloc o).cell? ⟨BX,2,none⟩=some (.int .i64 (LN':Int)):=fun o=>kc (A5 _ _) wc62;have HB6:=A6 hbb6;have hcv6:=DC KD HKD.out (kc hb6 (show(w5.alloc (.cells #[.int .u8 (KD:Int)] 5)).cell? ⟨w5.heap.size,0,none⟩=some (.int .u8 (KD:Int)) by simp[go_sem]));rw[HTK.out]at hcv6;clear hb6 hbb6);try(go_wp2_with fail)
     refine AX hK fun hJ=>?_;clear hK K;clear hJ;refine AR 5 fun K hK=>?_;go_simp;refine AX hK fun hJ=>?_;clear hK K;refine wpAnyH_take (i:=6) (v:=?_) A7 kR kR kR A8 (Or.inl ⟨rF,?_⟩) A9 ?_
     rotate_left 1
     ·(intro wS hSw;(try dsimp only at hSw);go_simp;try(with_reducible rfl))
     try simp only[Act.put,List.setIfInBounds_toArray,List.set_cons_zero,List.set_cons_succ]
     refine wpAnyH_take (i:=11) (v:=?_) A7 kR kR kR A8 (Or.inl ⟨rF,?_⟩) A9 ?_
     rotate_left 1
     ·(intro wS hSw;(try dsimp only at hSw);go_simp;try(with_reducible rfl))
     try simp only[Act.put,List.setIfInBounds_toArray,List.set_cons_zero,List.set_cons_succ]
     refine wpAnyH_take (i:=14) (v:=?_) A7 kR kR kR A8 (Or.inl ⟨rF,?_⟩) A9 ?_
     rotate_left 1
     ·(intro wS hSw;(try dsimp only at hSw);go_simp;try(with_reducible rfl))
     try simp only[Act.put,List.setIfInBounds_toArray,List.set_cons_zero,List.set_cons_succ]
     exact Pv
    refine Gk 17 (fun K hK=>?_) AllReadyH.nil;go_simp;(go_at_call 20;(with_reducible refine(KNN.out _).mono ?_);rintro e9 w6 ⟨rfl,hb6⟩;have hbb6:Below V.heap.size V w6:=bel HB5.out hb6;have wc60:w6.cell? ⟨BX,0,none⟩=some (.string nm):=kc hbb6 z0;have wc61:w6.cell? ⟨BX,1,none⟩=some (.int .i64 (KD:Int)):=kc hbb6 z1;have wc62:w6.cell? ⟨BX,2,none⟩=some (.int .i64 (LN':Int)):=kc hbb6 z2;have wk60:∀o,(w6.alloc o).cell? ⟨BX,0,none⟩=some (.string nm):=fun o=>kc (A5 _ _) wc60;have wk61:∀o,(w6.alloc o).cell? ⟨BX,1,none⟩=some (.int .i64 (KD:Int)):=fun o=>kc (A5 _ _) wc61;have wk62:∀o,(w6.alloc o).cell? ⟨BX,2,none⟩=some (.int .i64 (LN':Int)):=fun o=>kc (A5 _ _) wc62;have HB6:=A6 hbb6;clear hb6 hbb6);try(go_wp2_with fail)
    refine AX hK fun hJ=>?_;clear hK K;clear hJ;refine AR 4 fun K hK=>?_;go_simp;refine AX hK fun hJ=>?_;clear hK K;clear hJ;refine AR 5 fun K hK=>?_;go_simp;refine AX hK fun hJ=>?_;clear hK K;refine wpAnyH_take (i:=6) (v:=?_) A7 kR kR kR A8 (Or.inl ⟨rF,?_⟩) A9 ?_
    rotate_left 1
    ·(intro wS hSw;(try dsimp only at hSw);go_simp;try(with_reducible rfl))
    try simp only[Act.put,List.setIfInBounds_toArray,List.set_cons_zero,List.set_cons_succ]
    refine wpAnyH_take (i:=11) (v:=?_) A7 kR kR kR A8 (Or.inl ⟨rF,?_⟩) A9 ?_
    rotate_left 1
    ·(intro wS hSw;(try dsimp only at hSw);go_simp;try(with_reducible rfl))
    try simp only[Act.put,List.setIfInBounds_toArray,List.set_cons_zero,List.set_cons_succ]
    refine wpAnyH_take (i:=14) (v:=?_) A7 kR kR kR A8 (Or.inl ⟨rF,?_⟩) A9 ?_
    rotate_left 1
    ·(intro wS hSw;(try dsimp only at hSw);go_simp;try(with_reducible rfl))
    try simp only[Act.put,List.setIfInBounds_toArray,List.set_cons_zero,List.set_cons_succ]
    refine wpAnyH_take (i:=18) (v:=?_) A7 kR kR kR A8 (Or.inl ⟨rF,?_⟩) A9 ?_
    rotate_left 1
    ·(intro wS hSw;(try dsimp only at hSw);go_simp;try(with_reducible rfl))
    try simp only[Act.put,List.setIfInBounds_toArray,List.set_cons_zero,List.set_cons_succ]
    refine wpAnyH_take (i:=19) (v:=?_) A7 kR kR kR A8 (Or.inl ⟨rF,?_⟩) A9 ?_
    rotate_left 1
    ·(intro wS hSw;(try dsimp only at hSw);go_simp;try(with_reducible rfl))
    try simp only[Act.put,List.setIfInBounds_toArray,List.set_cons_zero,List.set_cons_succ]
    refine wpAnyH_done kR ?_ _;go_wp2;go_roundw
    case rel=>exact⟨k+1,HNk.out,gN,by first|rfl|rw[c4],bel HBW.out (bel HB6.out (A5 _ _))⟩
    case measure=>have:=HNk.out;simp[intOf];omega
   .have e1:¬ (k:Int)<(c.sign.length:Int):=oM;have hkn:k=c.sign.length:=oM;have HGN:Hid (G0 k=R0):=by show _=_;rw[hkn];exact HG0.2.1
    exact Qa
 case rest=>
 obtain⟨rfl,HJ⟩:=hcut;rename World=>VW0;obtain⟨b0,b1,b2,b3⟩:=HX.out VW0 HJ.out;go_upto_block 2 with(go_at_call 20;(with_reducible refine(KN1.out _).mono ?_);rintro e9 wB1 ⟨rfl,hbB⟩;have HJ1:Hid (Below W0.heap.size W0 wB1):=bel HJ.out hbB;clear hbB)
 clear b0 b1 b2 b3 HJ;go_cut [6,9] (fun sv kv wx=>sv=.string R1/\Hid (Below W0.heap.size W0 wx))
 case first=>
  obtain⟨b0,b1,b2,b3⟩:=HX.out _ HJ1.out;go_wp2_with fail;clear b0 b1 b2 b3
  go_loopw [6,9] (fun sv kv wx=>∃k:Nat,k<=c.regs.length/\kv=.int .i64 (k:Int)/\sv=.string (G1 k)/\Hid (Below W0.heap.size W0 wx)) (fun _ kv _=>c.regs.length-(intOf kv).toNat)
  case atStart=>exact⟨0,gI _,rfl,by rw[HG1.1],HJ1.out⟩
  case round=>
   obtain⟨k,hk',rfl,rfl,HJ⟩:=hrel;obtain⟨b0,b1,b2,b3⟩:=HX.out wr HJ.out;by_cases hlt:k<c.regs.length
   .have hx:=HOK.2.1.2 c.regs[k] (gD hlt);obtain⟨rb,ro,rfl,hcl⟩:=(HV.out wr HJ.out).regs.at hlt;have hst:=HG1.2.2.1 k hlt;have zG:=HG1.2.2.2 k;obtain⟨x,hxe⟩:=gA (c.regs[k])
    rw[hxe]at hcl hx hst;have y0:=hcl.at 0 (v:=.int .i64 x.kind) rfl;rw[Nat.add_zero]at y0;have y1:=hcl.at 1 (v:=.int .i64 x.par) rfl;have llb:rb<wr.heap.size:=Ae y0;have KX:=A6 (fun v=>Es x hx v);obtain⟨TX,hTX⟩:∃T,AT (BL x)=T:=⟨_,rfl⟩
    have zX:TX.size<=100:=by rw[<-hTX,Af];have:=Ct hx;omega
    rw[hTX]at KX hst;have zc:¬9223372036854775807<(G1 k).size+TX.size:=oM;obtain⟨N,hN⟩:=gA (c.regs.length)
    have i1:(0:Int)<=(k:Int):=oM;have i2:(k:Int)<(N:Int):=oM;have HNk:Hid (k+1<=c.regs.length):=by show _<=_;omega
    have hNb:N<=40000:=by have:=HOK.out;unfold BI at this;omega
    have wi:IntKind.i64.wrap ((k:Int)+1)=((k+1:Nat):Int):=by rw[IntKind.wrap_i64];omega
    rw[hN]at b1;clear hcl hx hxe hTX zX zG hlt hk' hN;go_wp2_with(go_at_call 21;(with_reducible refine(KX.out _).mono ?_);rintro e9 w5 ⟨rfl,hb5⟩;have HB5:=A6 (bel HJ.out hb5);clear hb5);exact RI
   .have e1:¬ (k:Int)<(c.regs.length:Int):=oM;have hkn:k=c.regs.length:=oM;have HGN:Hid (G1 k=R1):=by show _=_;rw[hkn];exact HG1.2.1
    exact Qa
 case rest=>
 obtain⟨rfl,HJ⟩:=hcut;rename World=>VW1;obtain⟨b0,b1,b2,b3⟩:=HX.out VW1 HJ.out;go_upto_block 4 with(go_at_call 20;(with_reducible refine(KN2.out _).mono ?_);rintro e9 wB2 ⟨rfl,hbB⟩;have HJ2:Hid (Below W0.heap.size W0 wB2):=bel HJ.out hbB;clear hbB)
 clear b0 b1 b2 b3 HJ;go_cut [6,10] (fun sv kv wx=>sv=.string R2/\Hid (Below W0.heap.size W0 wx))
 case first=>
  obtain⟨b0,b1,b2,b3⟩:=HX.out _ HJ2.out;go_wp2_with fail;clear b0 b1 b2 b3
  go_loopw [6,10] (fun sv kv wx=>∃k:Nat,k<=c.slots.length/\kv=.int .i64 (k:Int)/\sv=.string (G2 k)/\Hid (Below W0.heap.size W0 wx)) (fun _ kv _=>c.slots.length-(intOf kv).toNat)
  case atStart=>exact⟨0,gI _,rfl,by rw[HG2.1],HJ2.out⟩
  case round=>
   obtain⟨k,hk',rfl,rfl,HJ⟩:=hrel;obtain⟨b0,b1,b2,b3⟩:=HX.out wr HJ.out;by_cases hlt:k<c.slots.length
   .have hx:=HOK.2.2.1.2 c.slots[k] (gD hlt);obtain⟨rb,ro,rfl,hcl⟩:=(HV.out wr HJ.out).slots.at hlt;have hst:=HG2.2.2.1 k hlt;have zG:=HG2.2.2.2 k;obtain⟨x,hxe⟩:=gA (c.slots[k])
    rw[hxe]at hcl hx hst;have y0:=hcl.at 0 (v:=.int .i64 x.ty.kind) rfl;rw[Nat.add_zero]at y0;have y1:=hcl.at 1 (v:=.int .i64 x.ty.par) rfl;have y2:=hcl.at 2 (v:=.bool x.keep) rfl;have y3:=hcl.at 3 (v:=.int .u32 x.bits) rfl;have y4:=hcl.at 4 (v:=.int .i64 x.int_) rfl;have llb:rb<wr.heap.size:=Ae y0;obtain⟨BX,hBX⟩:∃B,wr.heap.size=B:=⟨_,rfl⟩
    obtain⟨V,hV⟩:=gA (wr.alloc (.cells #[.int .i64 x.ty.kind,.int .i64 x.ty.par,.bool x.keep,.int .u32 x.bits,.int .i64 x.int_] 66))
    have hbV:Below wr.heap.size wr V:=by rw[<-hV];exact A5 _ _
    have n9:¬rb=wr.heap.size:=oM;have z0:V.cell? ⟨BX,0,none⟩=some (.int .i64 x.ty.kind):=by rw[<-hV,<-hBX];simp[go_sem]
    have z1:V.cell? ⟨BX,1,none⟩=some (.int .i64 x.ty.par):=by rw[<-hV,<-hBX];simp[go_sem]
    have z2:V.cell? ⟨BX,2,none⟩=some (.bool x.keep):=by rw[<-hV,<-hBX];simp[go_sem]
    have z3:V.cell? ⟨BX,3,none⟩=some (.int .u32 x.bits):=by rw[<-hV,<-hBX];simp[go_sem]
    have z4:V.cell? ⟨BX,4,none⟩=some (.int .i64 x.int_):=by rw[<-hV,<-hBX];simp[go_sem]
    have KT:=A6 (fun v=>Es x.ty hx.1 v);obtain⟨I,hI⟩:∃I:Nat,x.int_=(I:Int):=⟨x.int_.toNat,by have:=hx.2.1;omega⟩
    obtain⟨Z,hZ⟩:∃I:Nat,x.bits=(I:Int):=⟨x.bits.toNat,by have:=hx.2.2.2.1;omega⟩
    have KI:=A6 (fun v=>AP I (by have:=hx.2.2.1;omega) v);have KL:Hid (∀v,Calls prog 22 #[.int .u64 (Z:Int),.int .i64 4] v fun e w'=>e=.returned (.string (AT (AK 4 Z)))/\Below v.heap.size v w'):=fun v=>FE Z (by have:=hx.2.2.2.2.1;omega) 4 dE dE v;have wZ:IntKind.u64.wrap (Z:Int)=(Z:Int):=by have:=hx.2.2.2.2.1;unfold IntKind.wrap;simp[IntKind.signed,IntKind.bits];omega
    obtain⟨TT,hTT⟩:∃T,AT (BL x.ty)=T:=⟨_,rfl⟩
    have zTT:TT.size<=10:=by rw[<-hTT,Af];exact Ct hx.1
    rw[hTT]at KT;have zI:(AT (Ak I)).size<=9:=by rw[Af];exact Al (by have:=hx.2.2.1;omega)
    have zL:(AT (AK 4 Z)).size=4:=by rw[Af,AN]
    have hsl:AT (C5 x)=AT [if x.keep=true then 1 else 0]++(TT++AT (if x.ty.kind=2 then Ak I else AK 4 Z)):=by
     unfold C5;rw[hI,hZ,Int.toNat_natCast,Int.toNat_natCast,B0,B0,hTT]
    rw[hsl]at hst;rw[hI]at z4;rw[hZ]at z3;obtain⟨N,hN⟩:=gA (c.slots.length)
    have i1:(0:Int)<=(k:Int):=oM;have i2:(k:Int)<(N:Int):=oM;have HNk:Hid (k+1<=c.slots.length):=by show _<=_;omega
    have hNb:N<=40000:=by have:=HOK.out;unfold BI at this;omega
    have wi:IntKind.i64.wrap ((k:Int)+1)=((k+1:Nat):Int):=by rw[IntKind.wrap_i64];omega
    rw[hN]at b2;obtain⟨tk,htk⟩:∃t,x.ty.kind=t:=⟨_,rfl⟩
    obtain⟨kp,hkp⟩:∃t,x.keep=t:=⟨_,rfl⟩
    have HBW:Hid (Below W0.heap.size W0 V):=bel HJ.out hbV;have HZ:=A6 (fun(u:World) (h:Below V.heap.size V u)=>(⟨kc h z0,kc h z3,kc h z4⟩:u.cell? ⟨BX,0,none⟩=some (.int .i64 x.ty.kind)/\u.cell? ⟨BX,3,none⟩=some (.int .u32 (Z:Int))/\u.cell? ⟨BX,4,none⟩=some (.int .i64 (I:Int))));rw[htk]at HZ hst z0 KT;rw[hkp]at hst z2;rw[htk]at y0;rw[hkp]at y2;rw[hI]at y4;rw[hZ]at y3;have hV':wr.alloc (.cells #[.int .i64 tk,.int .i64 x.ty.par,.bool kp,.int .u32 (Z:Int),.int .i64 (I:Int)] 66)=V:=by rw[<-hV,htk,hkp,hI,hZ]
    have HHV:=A6 hV';clear hcl hx hxe hsl hTT hI hZ htk hkp hlt hk' hN hV hV' hbV;go_upto_region 20 with fail;rw[HHV.out];try rw[hBX]
    clear y0 y1 y2 y3 y4 hBX n9 llb b0 b1 b2 b3 HHV;by_cases hkd:tk=2
    .have q1:(tk==2)=true:=by simpa using hkd
     rw[if_pos hkd]at hst;clear hkd;cases kp
     .have c1:∃A1 A2:ByteArray,G2 k++(⟨#[0]⟩:ByteArray)=A1/\A1++TT=A2/\A2++AT (Ak I)=G2 (k+1)/\A1.size<=3000005/\A2.size<=3000015:=by
       exact Q0
      obtain⟨A1,A2,c1,c2,c3,zA1,zA2⟩:=c1;obtain⟨TN,hTN⟩:∃T,AT (Ak I)=T:=⟨_,rfl⟩
      rw[hTN]at c3 KI zI;have g1:¬9223372036854775807<(G2 k).size+(⟨#[0]⟩:ByteArray).size:=by show¬_<_+1;omega
      exact Rf
     .have c1:∃A1 A2:ByteArray,G2 k++(⟨#[1]⟩:ByteArray)=A1/\A1++TT=A2/\A2++AT (Ak I)=G2 (k+1)/\A1.size<=3000005/\A2.size<=3000015:=by
       exact Q0
      obtain⟨A1,A2,c1,c2,c3,zA1,zA2⟩:=c1;obtain⟨TN,hTN⟩:∃T,AT (Ak I)=T:=⟨_,rfl⟩
      rw[hTN]at c3 KI zI;have g1:¬9223372036854775807<(G2 k).size+(⟨#[1]⟩:ByteArray).size:=by show¬_<_+1;omega
      exact Rf
    .have q1:(tk==2)=false:=by simpa using hkd
     rw[if_neg hkd]at hst;clear hkd;cases kp
     .have c1:∃A1 A2:ByteArray,G2 k++(⟨#[0]⟩:ByteArray)=A1/\A1++TT=A2/\A2++AT (AK 4 Z)=G2 (k+1)/\A1.size<=3000005/\A2.size<=3000015:=by
       exact Q0
      obtain⟨A1,A2,c1,c2,c3,zA1,zA2⟩:=c1;obtain⟨TN,hTN⟩:∃T,AT (AK 4 Z)=T:=⟨_,rfl⟩
      rw[hTN]at c3 KL zL;have g1:¬9223372036854775807<(G2 k).size+(⟨#[0]⟩:ByteArray).size:=by show¬_<_+1;omega
      exact Rg
     .have c1:∃A1 A2:ByteArray,G2 k++(⟨#[1]⟩:ByteArray)=A1/\A1++TT=A2/\A2++AT (AK 4 Z)=G2 (k+1)/\A1.size<=3000005/\A2.size<=3000015:=by
       exact Q0
      obtain⟨A1,A2,c1,c2,c3,zA1,zA2⟩:=c1;obtain⟨TN,hTN⟩:∃T,AT (AK 4 Z)=T:=⟨_,rfl⟩
      rw[hTN]at c3 KL zL;have g1:¬9223372036854775807<(G2 k).size+(⟨#[1]⟩:ByteArray).size:=by show¬_<_+1;omega
      exact Rg
   .have e1:¬ (k:Int)<(c.slots.length:Int):=oM;have hkn:k=c.slots.length:=oM;have HGN:Hid (G2 k=R2):=by show _=_;rw[hkn];exact HG2.2.1
    exact Qa
 case rest=>
 obtain⟨rfl,HJ⟩:=hcut;rename World=>VW2;obtain⟨b0,b1,b2,b3⟩:=HX.out VW2 HJ.out;go_upto_block 6 with(go_at_call 20;(with_reducible refine(KN3.out _).mono ?_);rintro e9 wB3 ⟨rfl,hbB⟩;have HJ3:Hid (Below W0.heap.size W0 wB3):=bel HJ.out hbB;clear hbB)
 clear b0 b1 b2 b3 HJ;go_cut [6,13] (fun sv kv wx=>sv=.string R3/\Hid (Below W0.heap.size W0 wx))
 case first=>
  obtain⟨b0,b1,b2,b3⟩:=HX.out _ HJ3.out;go_wp2_with fail;clear b0 b1 b2 b3
  go_loopw [6,13] (fun sv kv wx=>∃k:Nat,k<=c.list.length/\kv=.int .i64 (k:Int)/\sv=.string (G3 k)/\Hid (Below W0.heap.size W0 wx)) (fun _ kv _=>c.list.length-(intOf kv).toNat)
  case atStart=>exact⟨0,gI _,rfl,by rw[HG3.1],HJ3.out⟩
  case round=>
   obtain⟨k,hk',rfl,rfl,HJ⟩:=hrel;obtain⟨b0,b1,b2,b3⟩:=HX.out wr HJ.out;by_cases hlt:k<c.list.length
   .have hx:=HOK.2.2.2.2 c.list[k] (gD hlt);obtain⟨rb,ro,rfl,hcl⟩:=(HV.out wr HJ.out).list.at hlt;have hst:=HG3.2.2.1 k hlt;have zG:=HG3.2.2.2 k;obtain⟨x,hxe⟩:=gA (c.list[k])
    rw[hxe]at hcl hx hst;have y0:=hcl.at 0 (v:=.int .i64 x.op) rfl;rw[Nat.add_zero]at y0;have y1:=hcl.at 1 (v:=.int .i64 x.d) rfl;have y2:=hcl.at 2 (v:=.int .i64 x.a) rfl;have y3:=hcl.at 3 (v:=.int .i64 x.b) rfl;have y4:=hcl.at 4 (v:=.int .i64 x.c) rfl;have y5:=hcl.at 5 (v:=.int .i64 x.n) rfl;have y6:=hcl.at 6 (v:=.int .u32 x.bits) rfl;have llb:rb<wr.heap.size:=Ae y0;have KX:=A6 (fun v=>Hp x hx v);obtain⟨TX,hTX⟩:∃T,AT (Bf x)=T:=⟨_,rfl⟩
    have zX:TX.size<=100:=by rw[<-hTX,Af];have:=Dq hx;omega
    rw[hTX]at KX hst;have zc:¬9223372036854775807<(G3 k).size+TX.size:=oM;obtain⟨N,hN⟩:=gA (c.list.length)
    have i1:(0:Int)<=(k:Int):=oM;have i2:(k:Int)<(N:Int):=oM;have HNk:Hid (k+1<=c.list.length):=by show _<=_;omega
    have hNb:N<=40000:=by have:=HOK.out;unfold BI at this;omega
    have wi:IntKind.i64.wrap ((k:Int)+1)=((k+1:Nat):Int):=by rw[IntKind.wrap_i64];omega
    rw[hN]at b3;clear hcl hx hxe hTX zX zG hlt hk' hN;go_wp2_with(go_at_call 23;(with_reducible refine(KX.out _).mono ?_);rintro e9 w5 ⟨rfl,hb5⟩;have HB5:=A6 (bel HJ.out hb5);clear hb5);exact RI
   .have e1:¬ (k:Int)<(c.list.length:Int):=oM;have hkn:k=c.list.length:=oM;have HGN:Hid (G3 k=R3):=by show _=_;rw[hkn];exact HG3.2.1
    exact Qa
 case rest=>
 obtain⟨rfl,HJ⟩:=hcut;rename World=>VW3;obtain⟨b0,b1,b2,b3⟩:=HX.out VW3 HJ.out;clear b0 b1 b2 b3;go_wp2_with(first|(go_at_call 24;(with_reducible refine(KPR.out _).mono ?_);rintro e9 wY ⟨rfl,rfl⟩)|(go_at_call 22;(with_reducible refine(KLW.out _).mono ?_);rintro e9 wZ ⟨rfl,hbZ⟩;have HBZ:=A6 (bel HB0.out (bel HJ.out hbZ));clear hbZ));refine bodyPost_ret (by simp[results,results9,go_sem, *];try rfl) rfl ?_;exact⟨by rw[HFIN.out],HBZ.out⟩
theorem H4(c:Cd)(hk:Bd c):∃ (T:ByteArray) (ee:Int),(∀ (v:World) (x0 x1 x2 x3:Value),CN v x0 x1 x2 x3 c->Calls prog 8 #[.agg #[x0,x1,x2,x3]] v fun e w'=>e=.returned (.tuple #[.string T,.int .i64 ee])/\Below v.heap.size v w')/\(∀ (v:World) (x0 x1 x2 x3:Value),CN v x0 x1 x2 x3 c->Calls prog 9 #[.agg #[x0,x1,x2,x3]] v fun e w'=>e=.returned (.tuple #[.string T,.int .i64 ee])/\Below v.heap.size v w'):=by
 by_cases hc:(Az c).1=0
 .exact⟨AT (BB c),0,fun v x0 x1 x2 x3 h=>ER x0 x1 x2 x3 c hk v h hc,fun v x0 x1 x2 x3 h=>GD x0 x1 x2 x3 c hk v h hc⟩
 .exact⟨_,_,fun v x0 x1 x2 x3 h=>Ii x0 x1 x2 x3 c hk v h hc,fun v x0 x1 x2 x3 h=>Ho x0 x1 x2 x3 c hk v h hc⟩
theorem EP(v0 v1 v2 v3:Value)(c:Cd)(hk:Bd c)(hz:Pt c)(w:World)(hv:CN w v0 v1 v2 v3 c):
 Calls prog 3 #[.agg #[v0,v1,v2,v3]] w fun e w'=>e=.returned (.bool true)/\Below w.heap.size w w':=by
 have KW:=A6 (fun v=>HI v);obtain⟨p0,q0,rfl⟩:∃p q,v0=.slice p c.sign.length q:=by obtain⟨p,q,e,_⟩:=hv.sign;exact⟨p,q,e⟩
 obtain⟨p1,q1,rfl⟩:∃p q,v1=.slice p c.regs.length q:=by obtain⟨p,q,e,_⟩:=hv.regs;exact⟨p,q,e⟩
 obtain⟨p2,q2,rfl⟩:∃p q,v2=.slice p c.slots.length q:=by obtain⟨p,q,e,_⟩:=hv.slots;exact⟨p,q,e⟩
 obtain⟨p3,q3,rfl⟩:∃p q,v3=.slice p c.list.length q:=by obtain⟨p,q,e,_⟩:=hv.list;exact⟨p,q,e⟩
 obtain⟨X,hX⟩:=gA (w.heap.size)
 obtain⟨W0,hW0⟩:∃W,w.alloc (.cells #[.slice p0 c.sign.length q0,.slice p1 c.regs.length q1,.slice p2 c.slots.length q2,.slice p3 c.list.length q3] 27)=W:=⟨_,rfl⟩
 have hb0:Below w.heap.size w W0:=by rw[<-hW0];exact A5 _ _
 have x0:W0.cell? ⟨X,0,none⟩=some (.slice p0 c.sign.length q0):=by rw[<-hW0,<-hX];simp[go_sem]
 have x1:W0.cell? ⟨X,1,none⟩=some (.slice p1 c.regs.length q1):=by rw[<-hW0,<-hX];simp[go_sem]
 have x2:W0.cell? ⟨X,2,none⟩=some (.slice p2 c.slots.length q2):=by rw[<-hW0,<-hX];simp[go_sem]
 have x3:W0.cell? ⟨X,3,none⟩=some (.slice p3 c.list.length q3):=by rw[<-hW0,<-hX];simp[go_sem]
 have hv0:=hv.below hb0;have KT:=A6 (IX _ _ _ _ c hz W0 hv0);have HX:=A6 (fun(u:World) (h:Below W0.heap.size W0 u)=>(⟨kc h x0,kc h x1,kc h x2,kc h x3⟩:u.cell? ⟨X,0,none⟩=some (.slice p0 c.sign.length q0)/\u.cell? ⟨X,1,none⟩=some (.slice p1 c.regs.length q1)/\u.cell? ⟨X,2,none⟩=some (.slice p2 c.slots.length q2)/\u.cell? ⟨X,3,none⟩=some (.slice p3 c.list.length q3)));have HV:=A6 (fun(u:World) (h:Below W0.heap.size W0 u)=>hv0.below h);have HB0:=A6 hb0;obtain⟨T,ee,hKE,hKR⟩:=H4 c hk;have KE:=A6 hKE;have KR:=A6 hKR;have KQ:=A6 (fun(v:World) (a0 a1 a2 a3 b0 b1 b2 b3:Value) (ha:CN v a0 a1 a2 a3 c) (hb:CN v b0 b1 b2 b3 c)=>FB a0 a1 a2 a3 b0 b1 b2 b3 c c hk hk v ha hb);rw[H5]at KQ;clear hb0 hv hv0 hKE hKR;go_enter func3,ntmps3;go_upto_region 1 with fail;try rw[hW0]
 try rw[hX]
 clear hW0 hX;go_upto_region 2 with(go_at_call 7;(with_reducible refine KT.out.mono ?_);rintro e9 w3 ⟨t0,t1,t2,t3,rfl,ht3,ho3,hb3⟩;obtain⟨r0,s0,rfl⟩:=At ho3.sign;obtain⟨r1,s1,rfl⟩:=At ho3.regs;obtain⟨r2,s2,rfl⟩:=At ho3.slots;obtain⟨r3,s3,rfl⟩:=At ho3.list;have HT3:=A6 ht3;have HB3:=A6 hb3;clear ht3 ho3 hb3)
 obtain⟨Z,hZ⟩:=gA (w3.heap.size)
 obtain⟨V,hV⟩:=gA (w3.alloc (.cells #[.slice r0 c.sign.length s0,.slice r1 c.regs.length s1,.slice r2 c.slots.length s2,.slice r3 c.list.length s3] 27))
 have hbV:Below w3.heap.size w3 V:=by rw[<-hV];exact A5 _ _
 have z0:V.cell? ⟨Z,0,none⟩=some (.slice r0 c.sign.length s0):=by rw[<-hV,<-hZ];simp[go_sem]
 have z1:V.cell? ⟨Z,1,none⟩=some (.slice r1 c.regs.length s1):=by rw[<-hV,<-hZ];simp[go_sem]
 have z2:V.cell? ⟨Z,2,none⟩=some (.slice r2 c.slots.length s2):=by rw[<-hV,<-hZ];simp[go_sem]
 have z3:V.cell? ⟨Z,3,none⟩=some (.slice r3 c.list.length s3):=by rw[<-hV,<-hZ];simp[go_sem]
 have hcv:=HT3.below hbV;have HBV:Hid (Below W0.heap.size W0 V):=bel HB3.out hbV;have HZC:=A6 (fun(u:World) (h:Below V.heap.size V u)=>(⟨kc h z0,kc h z1,kc h z2,kc h z3⟩:u.cell? ⟨Z,0,none⟩=some (.slice r0 c.sign.length s0)/\u.cell? ⟨Z,1,none⟩=some (.slice r1 c.regs.length s1)/\u.cell? ⟨Z,2,none⟩=some (.slice r2 c.slots.length s2)/\u.cell? ⟨Z,3,none⟩=some (.slice r3 c.list.length s3)));have HCV:=A6 (fun(u:World) (h:Below V.heap.size V u)=>hcv.below h);have KEV:=A6 (KE.out V _ _ _ _ hcv);try rw[hV]
 try rw[hZ]
 clear hV hZ hbV hcv HT3 HB3 KT KE x0 x1 x2 x3;go_upto_region 3 with(go_at_call 8;(with_reducible refine KEV.out.mono ?_);rintro e9 w4 ⟨rfl,hb4⟩;have HB4:=A6 hb4;clear hb4)
 have hbW4:Below W0.heap.size W0 w4:=bel HBV.out HB4.out;obtain⟨y0,y1,y2,y3⟩:=HX.out w4 hbW4;have KR4:=A6 (KR.out w4 _ _ _ _ (HV.out w4 hbW4));have HBW4:=A6 hbW4;clear z0 z1 z2 z3 hbW4 KEV KR;go_upto_region 4 with(go_at_call 9;(with_reducible refine KR4.out.mono ?_);rintro e9 w5 ⟨rfl,hb5⟩;have HB5:=A6 hb5;clear hb5)
 have hb5V:Below V.heap.size V w5:=bel HB4.out HB5.out;have hb5W:Below W0.heap.size W0 w5:=bel HBW4.out HB5.out;obtain⟨u0,u1,u2,u3⟩:=HZC.out w5 hb5V;obtain⟨m0,m1,m2,m3⟩:=HX.out w5 hb5W;have KQ5:=A6 (KQ.out w5 _ _ _ _ _ _ _ _ (HCV.out w5 hb5V) (HV.out w5 hb5W));have HBF:=A6 hb5W;clear y0 y1 y2 y3 hb5V hb5W KR4 KQ HX HZC;go_wp2_with(first|(go_at_call 10;(with_reducible refine KQ5.out.mono ?_);rintro e9 w6 ⟨rfl,hb6⟩;have HB6:=A6 (bel HBF.out hb6);clear hb6)|(go_at_call 11;(with_reducible refine(KW.out _).mono ?_);rintro e9 wz ⟨rfl,hbz⟩;have HBz:=A6 (bel HB0.out (bel HB6.out hbz));clear hbz));refine bodyPost_ret (by simp[results,results3,go_sem, *];try rfl) rfl ?_;exact⟨by first|rfl|simp,HBz.out⟩
end Go.Proofs.YtnlgkkbmbijndaaGreat
