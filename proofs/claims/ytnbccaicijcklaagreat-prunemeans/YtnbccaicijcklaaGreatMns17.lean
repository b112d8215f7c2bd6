import Derived.Test.YtnbccaicijcklaaGreatMns13
import Derived.Deep.CutBlock
import Derived.Deep.DeepCutAuto
import Derived.Test.YtnbccaicijcklaaGreatMns12
import Derived.Test.YtnbccaicijcklaaGreatMns11
import Derived.Test.YtnbccaicijcklaaGreatMns6
import Derived.Test.YtnbccaicijcklaaGreatMns14
import Derived.Test.YtnbccaicijcklaaGreatMns1
namespace Go.Proofs.YtnbccaicijcklaaGreat
open Go.RowKit Go.Proofs.Tryz
set_option linter.all false
set_option maxRecDepth 100000
set_option maxHeartbeats 16000000
theorem T0{T:Nat->Prop}(p0 p1 p2 p3 p5 p6 p7 p8:Option Addr)(n0 q0 n1 q1 n2 q2 n3 q3 n5 q5 n6 q6 n7 q7 n8 q8:Nat)(ct:Int)(pr:Option Addr)(qr:Nat)(X:List Cl)(N:Nat)(hN:X.length=N)(hX:N<=16384)(op:Int)(o1:34<=op)(o2:op<=37)(nn bt:Int)(kd ka kb kk:Nat)(w:World)(hT:∀b,T b->b<w.heap.size)(hcs:AT T w (.slice pr N qr) X):
 Calls prog 43 #[.agg #[(.slice p0 n0 q0),(.slice p1 n1 q1),(.slice p2 n2 q2),(.slice p3 n3 q3),.slice pr N qr,(.slice p5 n5 q5),(.slice p6 n6 q6),(.slice p7 n7 q7),(.slice p8 n8 q8),(.int .i64 ct)],.agg #[.int .i64 op,.int .i64 (kd:Int),.int .i64 (ka:Int),.int .i64 (kb:Int),.int .i64 (kk:Int),.int .i64 nn,.int .u32 bt]] w fun e w'=>e=.returned (.agg #[(.slice p0 n0 q0),(.slice p1 n1 q1),(.slice p2 n2 q2),(.slice p3 n3 q3),.slice pr N qr,(.slice p5 n5 q5),(.slice p6 n6 q6),(.slice p7 n7 q7),(.slice p8 n8 q8),(.int .i64 ct)])/\Below w.heap.size w w':=by
 have HT2:Hid (∀v:World,w.heap.size+1+1+1<v.heap.size->∀b,T2 w T b->b<v.heap.size):=fun v hv b hb=>Dk hT hb hv;have on1:(op==1)=false:=by have:op≠1:=oM;simpa using this
 have on2:(op==2)=false:=by have:op≠2:=oM;simpa using this
 have on16:(op==16)=false:=by have:op≠16:=oM;simpa using this
 have on17:(op==17)=false:=by have:op≠17:=oM;simpa using this
 have on18:(op==18)=false:=by have:op≠18:=oM;simpa using this
 have on19:(op==19)=false:=by have:op≠19:=oM;simpa using this
 have on20:(op==20)=false:=by have:op≠20:=oM;simpa using this
 have on29:(op==29)=false:=by have:op≠29:=oM;simpa using this
 have on30:(op==30)=false:=by have:op≠30:=oM;simpa using this
 have on31:(op==31)=false:=by have:op≠31:=oM;simpa using this
 have on32:(op==32)=false:=by have:op≠32:=oM;simpa using this
 have on33:(op==33)=false:=by have:op≠33:=oM;simpa using this
 have m1:¬op<=15:=oM;have m2:¬op<=28:=oM;have HD0:Hid (DW w (D4 (.slice p0 n0 q0) (.slice p1 n1 q1) (.slice p2 n2 q2) (.slice p3 n3 q3) (.slice pr N qr) (.slice p5 n5 q5) (.slice p6 n6 q6) (.slice p7 n7 q7) (.slice p8 n8 q8) (.int .i64 ct)) (f7 (.int .i64 op) (.int .i64 (kd:Int)) (.int .i64 (ka:Int)) (.int .i64 (kb:Int)) (.int .i64 (kk:Int)) (.int .i64 nn) (.int .u32 bt)) (f2 (.slice none 0 0) (.int .i64 0)) _):=DW.start w (.slice p0 n0 q0) (.slice p1 n1 q1) (.slice p2 n2 q2) (.slice p3 n3 q3) (.slice pr N qr) (.slice p5 n5 q5) (.slice p6 n6 q6) (.slice p7 n7 q7) (.slice p8 n8 q8) (.int .i64 ct) (.int .i64 op) (.int .i64 (kd:Int)) (.int .i64 (ka:Int)) (.int .i64 (kb:Int)) (.int .i64 (kk:Int)) (.int .i64 nn) (.int .u32 bt);clear hT hcs hN;go_enter func43,ntmps43;go_upto_block 0 with fail;obtain⟨W,hW⟩:=gA (((((w.alloc (.cells #[(.slice p0 n0 q0),(.slice p1 n1 q1),(.slice p2 n2 q2),(.slice p3 n3 q3),.slice pr N qr,(.slice p5 n5 q5),(.slice p6 n6 q6),(.slice p7 n7 q7),(.slice p8 n8 q8),(.int .i64 ct)] 110)).alloc (.cells #[.int .i64 op,.int .i64 (kd:Int),.int .i64 (ka:Int),.int .i64 (kb:Int),.int .i64 (kk:Int),.int .i64 nn,.int .u32 bt] 40)).alloc (.cells #[.slice none 0 0,.slice none 0 0,.slice none 0 0,.slice none 0 0,.slice none 0 0,.slice none 0 0,.slice none 0 0,.slice none 0 0,.slice none 0 0,.int .i64 0] 110)).alloc (.cells #[.slice none 0 0,.int .i64 0] 74)))
 rw[hW]at HD0;rw[hW];clear hW;have hsz:=HD0.size;have f0:W.cell? ⟨w.heap.size,4,none⟩=some (.slice pr N qr):=HD0.f.cell (i:=4) dE;have i0:W.cell? ⟨w.heap.size+1,0,none⟩=some (.int .i64 op):=HD0.i.cell (i:=0) dE;have i2:W.cell? ⟨w.heap.size+1,2,none⟩=some (.int .i64 (ka:Int)):=HD0.i.cell (i:=2) dE;have i5:W.cell? ⟨w.heap.size+1,5,none⟩=some (.int .i64 nn):=HD0.i.cell (i:=5) dE;have HE:Hid (DE w (.slice p0 n0 q0) (.slice p1 n1 q1) (.slice p2 n2 q2) (.slice p3 n3 q3) (.slice pr N qr) (.slice p5 n5 q5) (.slice p6 n6 q6) (.slice p7 n7 q7) (.slice p8 n8 q8) (.int .i64 ct) W/\True):=⟨DE.of HD0.bel HD0.f HD0.r,trivial⟩
 obtain⟨⟨-,c0,c1,c2,c3,c4,c5,c6,c7,c8,c9,r0,r1,r2,r3,r4,r5,r6,r7,r8,r9,y0,y1,y2,y3,y4,y5,y6,y7,y8,y9⟩,-⟩:=HE.out;go_wp2;refine bodyPost_ret Zgy rfl ?_;refine⟨rfl,?_⟩;exact(JC HE.1)
theorem Xz(c:Cd)(hg:Good c)(v0 v1 v2 v3 ru su ou gu pu ct:Value)(f:Fr)(X S O:List Cl)(rel:P9 c f X S O)(w:World)(hv:CD w v0 v1 v2 v3 c)(hou:OuV w ou O):
 Calls prog 44 #[.agg #[v0,v1,v2,v3,ru,su,ou,gu,pu,ct]] w fun e w'=>∃p q,e=.returned (.slice p c.sign.length q)/\F7 (fun b=>b<w.heap.size) w' (.slice p c.sign.length q) (Gg c f)/\Below w.heap.size w w':=by
 have hsl:=hg.signL;have hol:=rel.ol;obtain⟨p0,q0,rfl,-⟩:=id hv.sign;obtain⟨po,qo,rfl,-⟩:=id hou.row;have HSG:Hid (AV 3 AY w (.slice p0 c.sign.length q0) c.sign):=hv.sign;have HOU:Hid (OuV w (.slice po O.length qo) O):=hou;have HRL:Hid (Good c/\P9 c f X S O):=⟨hg,rel⟩
 obtain⟨n0,hn0⟩:∃n,c.sign.length=n:=⟨_,rfl⟩
 have HN0:Hid (c.sign.length=n0):=hn0;obtain⟨M,hM⟩:∃n,O.length=n:=⟨_,rfl⟩
 have HM:Hid (O.length=M/\M=2*n0):=⟨hM,oM⟩
 rw[hn0]at hsl HSG |-;rw[hM]at HOU |-;have HC:Hid (∀v,Below (w.alloc (.cells #[.slice p0 n0 q0,v1,v2,v3,ru,su,.slice po M qo,gu,pu,ct] 110)).heap.size (w.alloc (.cells #[.slice p0 n0 q0,v1,v2,v3,ru,su,.slice po M qo,gu,pu,ct] 110)) v->v.cell? ⟨w.heap.size,0,none⟩=some (.slice p0 n0 q0)/\v.cell? ⟨w.heap.size,6,none⟩=some (.slice po M qo)):=fun v hb=>⟨kc hb sG,kc hb sG⟩
 have hM2:M<=128:=oM;clear hg rel hol hv hou hn0 hM;go_enter func44,ntmps44;go_wp2
 go_loopw [3,4] (fun ov iv wr=>Below (w.alloc (.cells #[.slice p0 n0 q0,v1,v2,v3,ru,su,.slice po M qo,gu,pu,ct] 110)).heap.size (w.alloc (.cells #[.slice p0 n0 q0,v1,v2,v3,ru,su,.slice po M qo,gu,pu,ct] 110)) wr/\∃ (j:Nat) (p:Option Addr) (q:Nat) (Y:List Cu),j<=n0/\iv=.int .i64 (j:Int)/\ov=.slice p j q/\Hid (OW (w.alloc (.cells #[.slice p0 n0 q0,v1,v2,v3,ru,su,.slice po M qo,gu,pu,ct] 110)).heap.size wr (.slice p j q) Y)/\Hid (Y.map (·.l)=(List.range j).map (OT c f))) (fun _ iv _=>n0-(intOf iv).toNat)
 case atStart=>exact⟨BZ _,0,none,0,[],gI _,rfl,rfl,OW.nil _ _,rfl⟩
 case round=>
  obtain⟨hb,j,p,q,Y,hj,rfl,rfl,hvs,hmap⟩:=hrel;obtain⟨c0,c6⟩:=HC.out wr hb;have HYL:Hid (Y.length=j):=by
   have h5:=congrArg List.length hmap.out;rw[List.length_map,List.length_map,List.length_range]at h5;exact h5
  by_cases hlt:j<n0
  .have hjl:j<c.sign.length:=by rw[HN0.out];exact hlt
   have hol:2*j<O.length:=by rw[HM.1,HM.2];omega
   obtain⟨lb,lo,rfl,hx⟩:=HSG.at hjl;obtain⟨ob,oo,rfl,hxo⟩:=HOU.row.at hol;have HB:Hid (Below (w.alloc (.cells #[.slice (some ⟨lb,lo,none⟩) n0 q0,v1,v2,v3,ru,su,.slice (some ⟨ob,oo,none⟩) M qo,gu,pu,ct] 110)).heap.size (w.alloc (.cells #[.slice (some ⟨lb,lo,none⟩) n0 q0,v1,v2,v3,ru,su,.slice (some ⟨ob,oo,none⟩) M qo,gu,pu,ct] 110)) wr):=hb;have HBW:Hid (Below w.heap.size w wr):=bel (A0 _ _) hb;have hln:=JR HRL.1 hjl;obtain⟨hnum,-,hl1,hl2,hap⟩:=JX HRL.1 hjl;have hk2:AI c (j:Int)=if c.sign[j].kind=2 then 2 else 1:=by unfold AI CU;simp[hjl]
   obtain⟨o1,ho1,ho2,ho3,ho4⟩:=HRL.2.oo j 0 hjl oM;rw[Nat.add_zero,gB hol]at ho1;simp only[Option.some.injEq]at ho1;rw[ho1]at hxo;have hno:=HOU.nums o1 (by rw[<-ho1];exact gD hol);obtain⟨⟨nm,K,L⟩,hT⟩:∃t:BJ,c.sign[j]=t:=⟨_,rfl⟩
   rw[hT]at hx hln hl1 hl2 hk2;simp only at hln hl1 hl2 hk2;obtain⟨ln,hlnn⟩:∃n,lenOf c (j:Int)=n:=⟨_,rfl⟩
   rw[hlnn]at ho2 ho4 hln hnum;subst hln;have hlnb:ln<=4096:=oM;have u1:wr.cell? ⟨ob,oo+2*j,none⟩=some (.slice o1.p ln o1.q):=by
    have h1:=kc HBW.out (hxo.at 0 (v:=.slice o1.p o1.h.pats.length o1.q) rfl);rw[Nat.mul_one,Nat.add_zero,ho2]at h1;exact h1
   obtain⟨nb,no,hpe,hnc⟩:∃b o,o1.p=some ⟨b,o,none⟩/\∀m,m<o1.h.pats.length->w.cell? ⟨b,o+m,none⟩=some (.int .i64 (CG o1.h.pats m)):=by
    rcases hno with e|⟨b,o,e,h⟩
    .omega
    .exact⟨b,o,e,h⟩
   rw[hpe]at u1;have y0:=kc HBW.out (hx.at 0 rfl);have y1:=kc HBW.out (hx.at 1 rfl);have y2:=kc HBW.out (hx.at 2 rfl);rw[Nat.add_zero]at y0;have i1:(0:Int)<=(j:Int):=oM;have i2:(j:Int)<(n0:Int):=oM;have w1:IntKind.i64.wrap (2*(j:Int))=((2*j:Nat):Int):=by rw[IntKind.wrap_i64];omega
   have i3:(0:Int)<=((2*j:Nat):Int):=oM;have i4:((2*j:Nat):Int)<(M:Int):=by have:=HM.2;omega
   clear hb ho1 hol hxo hno hl1 hl2 hlnn hpe;by_cases hK:K=2
   .rw[if_pos hK]at hk2;have hKb:(K==2)=true:=by simpa using hK
    have hol2:2*j+1<O.length:=by rw[HM.1,HM.2];omega
    obtain⟨ob',oo',hpo',hxo2⟩:=HOU.row.at hol2;simp only[Option.some.injEq,Addr.mk.injEq,and_true]at hpo';obtain⟨rfl,rfl⟩:=hpo';obtain⟨o2,ho1',hp2,hp3,hp4⟩:=HRL.2.oo j 1 hjl oM;rw[gB hol2]at ho1';simp only[Option.some.injEq]at ho1';rw[ho1']at hxo2;have hno2:=HOU.nums o2 (by rw[<-ho1'];exact gD hol2);have hlnn:lenOf c (j:Int)=ln:=by have h1:=hnum;first|(have:=JR HRL.1 hjl;rw[hT]at this;simp only at this;omega)
    rw[hlnn]at hp2 hp4;have u2:wr.cell? ⟨ob,oo+(2*j+1),none⟩=some (.slice o2.p ln o2.q):=by
     have h1:=kc HBW.out (hxo2.at 0 (v:=.slice o2.p o2.h.pats.length o2.q) rfl);rw[Nat.mul_one,Nat.add_zero,hp2]at h1;exact h1
    obtain⟨nb2,no2,hpe2,hnc2⟩:∃b o,o2.p=some ⟨b,o,none⟩/\∀m,m<o2.h.pats.length->w.cell? ⟨b,o+m,none⟩=some (.int .i64 (CG o2.h.pats m)):=by
     rcases hno2 with e|⟨b,o,e,h⟩
     .have:=HRL.1.len _ (gD hjl);rw[hT]at this;simp only at this;omega
     .exact⟨b,o,e,h⟩
    rw[hpe2]at u2;have w2:IntKind.i64.wrap (((2*j:Nat):Int)+1)=((2*j+1:Nat):Int):=by rw[IntKind.wrap_i64];omega
    have i5:(0:Int)<=((2*j+1:Nat):Int):=oM;have i6:((2*j+1:Nat):Int)<(M:Int):=by have:=HM.2;omega
    replace hap:AI c (j:Int)=2:=hk2
    clear ho1' hol2 hxo2 hno2 hlnn hpe2 hk2 hK hT hjl;have HV1:Hid (∀m,m<ln->wr.cell? ⟨nb,no+m,none⟩=some (.int .i64 (f.outs j (2*m)))):=fun m hm=>by
     have h1:=kc HBW.out (hnc m (by rw[ho2];exact hm));rw[ho4 m hm]at h1;rw[hap]at h1;exact h1
    have HP1:Hid (∀m,m<ln->AH (f.outs j (2*m))):=fun m hm=>by
     have h1:=CR ho3 m;rw[ho4 m hm]at h1;rw[hap]at h1;exact h1
    have HV2:Hid (∀m,m<ln->wr.cell? ⟨nb2,no2+m,none⟩=some (.int .i64 (f.outs j (2*m+1)))):=fun m hm=>by
     have h1:=kc HBW.out (hnc2 m (by rw[hp2];exact hm));rw[hp4 m hm,hap]at h1;exact h1
    have HP2:Hid (∀m,m<ln->AH (f.outs j (2*m+1))):=fun m hm=>by
     have h1:=CR hp3 m;rw[hp4 m hm,hap]at h1;exact h1
    have HUU:Hid (OT c f j=(List.range (2*ln)).map (f.outs j)):=by
     show _=_;unfold OT;rw[hnum,hap]
    have b6:=fun v (hb:Below wr.heap.size wr v)=>kc hb c6;have b7:=fun v (hb:Below wr.heap.size wr v)=>kc hb u1;have b8:=fun v (hb:Below wr.heap.size wr v)=>kc hb u2;have HB6:Hid _:=b6;have HB7:Hid _:=b7;have HB8:Hid _:=b8;clear ho2 ho3 ho4 hnc hx hap hnum b6 b7 hp2 hp3 hp4 hnc2 b8;go_wp2;have HEC:Hid (∀v,Below (wr.alloc (.cells #[.string nm,.int .i64 K,.int .i64 (ln:Int)] 67)).heap.size (wr.alloc (.cells #[.string nm,.int .i64 K,.int .i64 (ln:Int)] 67)) v->v.cell? ⟨wr.heap.size,1,none⟩=some (.int .i64 K)/\v.cell? ⟨wr.heap.size,2,none⟩=some (.int .i64 (ln:Int))/\Below wr.heap.size wr v):=fun v hb=>⟨kc hb sG,kc hb sG,bel (A0 _ _) hb⟩
    have hEs:wr.heap.size<(wr.alloc (.cells #[.string nm,.int .i64 K,.int .i64 (ln:Int)] 67)).heap.size:=sM;obtain⟨WE,hWE⟩:∃W,(wr.alloc (.cells #[.string nm,.int .i64 K,.int .i64 (ln:Int)] 67))=W:=⟨_,rfl⟩
    rw[hWE]at HEC hEs;try rw[hWE]
    clear hWE c0 c6 y0 y1 y2 u1 u2
    go_loopw [6,7] (fun vv kv wx=>Below WE.heap.size WE wx/\∃ (m:Nat) (pv:Option Addr) (qv:Nat),m<=ln/\kv=.int .i64 (m:Int)/\vv=.slice pv (2*m) qv/\Hid (wx.ownsRow WE.heap.size 38 1 (.slice pv (2*m) qv) (2*m) (MV ((List.range (2*m)).map (f.outs j))))) (fun _ kv _=>ln-(intOf kv).toNat)
    case atStart=>exact⟨BZ _,0,none,0,gI _,rfl,rfl,World.ownsRow_nil _ _ _ 1⟩
    case round=>
     obtain⟨hbx,m,pv,qv,hm,rfl,rfl,how⟩:=hrel;rename World=>wx;obtain⟨e1,e2,hbw⟩:=HEC.out wx hbx;have HBX:Hid (Below WE.heap.size WE wx):=hbx;have c6:=HB6.out wx hbw;have u1:=HB7.out wx hbw;have u2:=HB8.out wx hbw;by_cases hml:m<ln
     .have a1:=kc hbw (HV1.out m hml);have hPz:=HP1.out m hml;have a2:=kc hbw (HV2.out m hml);have hPy:=HP2.out m hml;obtain⟨z,hz⟩:=gA (f.outs j (2*m))
      have HZ:Hid (f.outs j (2*m)=z):=hz;rw[hz]at a1 hPz;have tz:IntKind.u32.wrap z=z:=by rw[IntKind.wrap_u32];have:=hPz.1;have:=hPz.2;omega
      obtain⟨g,c',w8,hap1,hb8,ho8,-⟩:=Gq (V:=wx) underlying78 JL rfl dE how.out hbx.size #[.int .u32 z] rfl Zgn mL oM 78;have HAP1:Hid _:=hap1;obtain⟨y,hy⟩:∃z,f.outs j (2*m+1)=z:=⟨_,rfl⟩
      have HY:Hid (f.outs j (2*m+1)=y):=hy;rw[hy]at a2 hPy;have ty:IntKind.u32.wrap y=y:=by rw[IntKind.wrap_u32];have:=hPy.1;have:=hPy.2;omega
      have hb8':=hbx.trans hb8;obtain⟨g2,c2,w9,hap2,hb9,ho9,-⟩:=Gq (V:=w8) underlying78 JL rfl dE ho8 hb8'.size #[.int .u32 y] rfl Zgn mL oM 78;have HAP2:Hid _:=hap2;have HNX:Hid (w9.ownsRow WE.heap.size 38 1 (.slice (some ⟨g2,0,none⟩) (2*(m+1)) c2) (2*(m+1)) (MV ((List.range (2*(m+1))).map (f.outs j)))):=by
       show World.ownsRow _ _ _ _ _ _ _;rw[show 2*(m+1)=2*m+1+1 by omega,Ek,Ek,Iq,Iq,HZ.out,HY.out];exact ho9
      have HB9:Hid (Below WE.heap.size WE w9):=hb8'.trans hb9;obtain⟨e3,e4,hbw8⟩:=HEC.out w8 hb8';have k6:=HB6.out w8 hbw8;have k7:=HB8.out w8 hbw8;have k8:=kc hbw8 (HV2.out m hml);rw[hy]at k8;have t0:(m:Int)<(ln:Int):=oM;have t5:IntKind.i64.wrap ((m:Int)+1)=((m+1:Nat):Int):=by rw[IntKind.wrap_i64];omega
      clear hap1 hb8 ho8 hz how hbx hbw hbw8 hap2 hb8' hb9 ho9 hy;go_upto_region 12 with(at_builtin;refine AO rF _ _ _ rF _ _ _ rF rF HAP1.out ?_)
      go_wp2_with(at_builtin;refine AO rF _ _ _ rF _ _ _ rF rF HAP2.out ?_);go_roundw
      case rel=>exact⟨HB9.out,m+1,_,_,oM,gN,rfl,HNX.out⟩
      case measure=>simp[intOf];omega
     .have hme:m=ln:=oM;have e9:¬ (m:Int)<(ln:Int):=oM;have hvx:=hvs.below hbw;have hlt2:=hvs.own.lt;have HJ2:Hid (m=ln):=hme;have hPA:KU wx (.slice p j q) pv ((List.range (2*m)).map (f.outs j)):=by
       rcases RD (l:=(List.range (2*m)).map (f.outs j)) Zhg with h|⟨b,o,e,h⟩
       .exact .inl (List.length_eq_zero_iff.1 h)
       .refine .inr ⟨b,o,e,fun e5=>?_,h⟩;have h6:=EE how.out b o none e;have h7:=(hlt2 b e5).2;omega
      have hlY:Y.length=j:=HYL.out;have hvx':OW (w.alloc (.cells #[.slice (some ⟨lb,lo,none⟩) n0 q0,v1,v2,v3,ru,su,.slice (some ⟨ob,oo,none⟩) M qo,gu,pu,ct] 110)).heap.size wx (.slice p Y.length q) Y:=by rw[hlY];exact hvx
      obtain⟨g3,c3,w7,hrun,hb7,hvs7⟩:=hvx'.push (by have h1:=HB.size;have h2:=hbw.size;omega) oM ⟨pv,qv,(List.range (2*m)).map (f.outs j)⟩ (by rw[hlY];exact hPA) (fun b o s e=>by have h6:=EE how.out b o s e;have h7:=HB.size;omega) 46;rw[hlY]at hrun hvs7;simp only[List.length_map,List.length_range]at hrun;have HRUN:Hid _:=hrun;have HV7:Hid (OW (w.alloc (.cells #[.slice (some ⟨lb,lo,none⟩) n0 q0,v1,v2,v3,ru,su,.slice (some ⟨ob,oo,none⟩) M qo,gu,pu,ct] 110)).heap.size w7 (.slice (some ⟨g3,0,none⟩) (j+1) c3) (Y++[⟨pv,qv,(List.range (2*m)).map (f.outs j)⟩])):=hvs7;have HB7':Hid (Below (w.alloc (.cells #[.slice (some ⟨lb,lo,none⟩) n0 q0,v1,v2,v3,ru,su,.slice (some ⟨ob,oo,none⟩) M qo,gu,pu,ct] 110)).heap.size (w.alloc (.cells #[.slice (some ⟨lb,lo,none⟩) n0 q0,v1,v2,v3,ru,su,.slice (some ⟨ob,oo,none⟩) M qo,gu,pu,ct] 110)) w7):=(HB.trans (hbw.mono HB.size)).trans hb7;have HM7:Hid ((Y++[(⟨pv,qv,(List.range (2*m)).map (f.outs j)⟩:Cu)]).map (·.l)=(List.range (j+1)).map (OT c f)):=by
       show _=_;rw[List.map_append,hmap.out,Ek,HUU.out,HJ2.out];rfl
      exact Zcu
   .rw[if_neg hK]at hk2;have hKb:(K==2)=false:=by simpa using hK
    replace hap:AI c (j:Int)=1:=hk2
    clear hk2 hK hT hjl;have HV1:Hid (∀m,m<ln->wr.cell? ⟨nb,no+m,none⟩=some (.int .i64 (f.outs j m))):=fun m hm=>by
     have h1:=kc HBW.out (hnc m (by rw[ho2];exact hm));rw[ho4 m hm]at h1;rw[hap,Nat.one_mul]at h1;exact h1
    have HP1:Hid (∀m,m<ln->AH (f.outs j m)):=fun m hm=>by
     have h1:=CR ho3 m;rw[ho4 m hm]at h1;rw[hap,Nat.one_mul]at h1;exact h1
    have HUU:Hid (OT c f j=(List.range (ln)).map (f.outs j)):=by
     show _=_;unfold OT;rw[hnum,hap,Nat.one_mul]
    have b6:=fun v (hb:Below wr.heap.size wr v)=>kc hb c6;have b7:=fun v (hb:Below wr.heap.size wr v)=>kc hb u1;have HB6:Hid _:=b6;have HB7:Hid _:=b7;clear ho2 ho3 ho4 hnc hx hap hnum b6 b7;go_wp2;have HEC:Hid (∀v,Below (wr.alloc (.cells #[.string nm,.int .i64 K,.int .i64 (ln:Int)] 67)).heap.size (wr.alloc (.cells #[.string nm,.int .i64 K,.int .i64 (ln:Int)] 67)) v->v.cell? ⟨wr.heap.size,1,none⟩=some (.int .i64 K)/\v.cell? ⟨wr.heap.size,2,none⟩=some (.int .i64 (ln:Int))/\Below wr.heap.size wr v):=fun v hb=>⟨kc hb sG,kc hb sG,bel (A0 _ _) hb⟩
    have hEs:wr.heap.size<(wr.alloc (.cells #[.string nm,.int .i64 K,.int .i64 (ln:Int)] 67)).heap.size:=sM;obtain⟨WE,hWE⟩:∃W,(wr.alloc (.cells #[.string nm,.int .i64 K,.int .i64 (ln:Int)] 67))=W:=⟨_,rfl⟩
    rw[hWE]at HEC hEs;try rw[hWE]
    clear hWE c0 c6 y0 y1 y2 u1
    go_loopw [6,7] (fun vv kv wx=>Below WE.heap.size WE wx/\∃ (m:Nat) (pv:Option Addr) (qv:Nat),m<=ln/\kv=.int .i64 (m:Int)/\vv=.slice pv (m) qv/\Hid (wx.ownsRow WE.heap.size 38 1 (.slice pv (m) qv) (m) (MV ((List.range (m)).map (f.outs j))))) (fun _ kv _=>ln-(intOf kv).toNat)
    case atStart=>exact⟨BZ _,0,none,0,gI _,rfl,rfl,World.ownsRow_nil _ _ _ 1⟩
    case round=>
     obtain⟨hbx,m,pv,qv,hm,rfl,rfl,how⟩:=hrel;rename World=>wx;obtain⟨e1,e2,hbw⟩:=HEC.out wx hbx;have HBX:Hid (Below WE.heap.size WE wx):=hbx;have c6:=HB6.out wx hbw;have u1:=HB7.out wx hbw;by_cases hml:m<ln
     .have a1:=kc hbw (HV1.out m hml);have hPz:=HP1.out m hml;obtain⟨z,hz⟩:=gA (f.outs j m)
      have HZ:Hid (f.outs j m=z):=hz;rw[hz]at a1 hPz;have tz:IntKind.u32.wrap z=z:=by rw[IntKind.wrap_u32];have:=hPz.1;have:=hPz.2;omega
      obtain⟨g,c',w8,hap1,hb8,ho8,-⟩:=Gq (V:=wx) underlying78 JL rfl dE how.out hbx.size #[.int .u32 z] rfl Zgn mL oM 78;have HAP1:Hid _:=hap1;have HNX:Hid (w8.ownsRow WE.heap.size 38 1 (.slice (some ⟨g,0,none⟩) (m+1) c') (m+1) (MV ((List.range (m+1)).map (f.outs j)))):=by
       show World.ownsRow _ _ _ _ _ _ _;rw[Ek,Iq,HZ.out];exact ho8
      have HB9:Hid (Below WE.heap.size WE w8):=hbx.trans hb8;obtain⟨e3,e4,hbw8⟩:=HEC.out w8 (hbx.trans hb8);have t0:(m:Int)<(ln:Int):=oM;have t5:IntKind.i64.wrap ((m:Int)+1)=((m+1:Nat):Int):=by rw[IntKind.wrap_i64];omega
      clear hap1 hb8 ho8 hz how hbx hbw hbw8;go_wp2_with(at_builtin;refine AO rF _ _ _ rF _ _ _ rF rF HAP1.out ?_);go_roundw
      case rel=>exact⟨HB9.out,m+1,_,_,oM,gN,rfl,HNX.out⟩
      case measure=>simp[intOf];omega
     .have hme:m=ln:=oM;have e9:¬ (m:Int)<(ln:Int):=oM;have hvx:=hvs.below hbw;have hlt2:=hvs.own.lt;have HJ2:Hid (m=ln):=hme;have hPA:KU wx (.slice p j q) pv ((List.range (m)).map (f.outs j)):=by
       rcases RD (l:=(List.range (m)).map (f.outs j)) Zhg with h|⟨b,o,e,h⟩
       .exact .inl (List.length_eq_zero_iff.1 h)
       .refine .inr ⟨b,o,e,fun e5=>?_,h⟩;have h6:=EE how.out b o none e;have h7:=(hlt2 b e5).2;omega
      have hlY:Y.length=j:=HYL.out;have hvx':OW (w.alloc (.cells #[.slice (some ⟨lb,lo,none⟩) n0 q0,v1,v2,v3,ru,su,.slice (some ⟨ob,oo,none⟩) M qo,gu,pu,ct] 110)).heap.size wx (.slice p Y.length q) Y:=by rw[hlY];exact hvx
      obtain⟨g3,c3,w7,hrun,hb7,hvs7⟩:=hvx'.push (by have h1:=HB.size;have h2:=hbw.size;omega) oM ⟨pv,qv,(List.range (m)).map (f.outs j)⟩ (by rw[hlY];exact hPA) (fun b o s e=>by have h6:=EE how.out b o s e;have h7:=HB.size;omega) 46;rw[hlY]at hrun hvs7;simp only[List.length_map,List.length_range]at hrun;have HRUN:Hid _:=hrun;have HV7:Hid (OW (w.alloc (.cells #[.slice (some ⟨lb,lo,none⟩) n0 q0,v1,v2,v3,ru,su,.slice (some ⟨ob,oo,none⟩) M qo,gu,pu,ct] 110)).heap.size w7 (.slice (some ⟨g3,0,none⟩) (j+1) c3) (Y++[⟨pv,qv,(List.range (m)).map (f.outs j)⟩])):=hvs7;have HB7':Hid (Below (w.alloc (.cells #[.slice (some ⟨lb,lo,none⟩) n0 q0,v1,v2,v3,ru,su,.slice (some ⟨ob,oo,none⟩) M qo,gu,pu,ct] 110)).heap.size (w.alloc (.cells #[.slice (some ⟨lb,lo,none⟩) n0 q0,v1,v2,v3,ru,su,.slice (some ⟨ob,oo,none⟩) M qo,gu,pu,ct] 110)) w7):=(HB.trans (hbw.mono HB.size)).trans hb7;have HM7:Hid ((Y++[(⟨pv,qv,(List.range (m)).map (f.outs j)⟩:Cu)]).map (·.l)=(List.range (j+1)).map (OT c f)):=by
       show _=_;rw[List.map_append,hmap.out,Ek,HUU.out,HJ2.out];rfl
      exact Zcu
  .have hjn:j=n0:=oM;have e1:¬ (j:Int)<(n0:Int):=oM;have HF:Hid (F7 (fun b=>b<w.heap.size) wr (.slice p n0 q) (Gg c f)):=by
    show F7 _ _ _ _;rw[updP_eq,HN0.out,<-hjn,<-hmap.out];exact hvs.vs.mono (fun b _ e=>by simp only[World.size_alloc];omega)
   have HJ:Hid (j=n0):=hjn;have HB:Hid (Below w.heap.size w wr):=bel (A0 _ _) hb;clear hvs hmap hlt hjn hb;go_wp2;go_ret;exact⟨p,q,by rw[HJ.out];rfl,HF.out,HB.out⟩
def ZOk(c:Cd)(l:List Hd):Prop:=∀j (h:j<c.slots.length),c.slots[j].ty.kind≠2->((l[j]?).getD ⟨[],0⟩).whole=0
structure Ib(c:Cd)(l:List Hd):Prop where
 len:l.length=c.slots.length
 ok:∀j (h:j<c.slots.length) (h':j<l.length),P6 c c.slots[j].ty l[j]
 z:ZOk c l
theorem QV{c:Cd}(hg:Good c){s:Sl}(hs:s∈c.slots)(h2:s.ty.kind≠2):(Bf c s).whole=0:=by
 have h1:=hg.slots s hs;unfold Be EN at h1;rw[if_neg h2]at h1;simp only[Bool.and_eq_true,beq_iff_eq]at h1;exact h1.2.1
theorem start_z{c:Cd}(hg:Good c):ZOk c (BC c):=fun j h h2=>by
 rw[BC,List.getElem?_map,gB h,Option.map_some,Option.getD_some];exact QV hg (gD h) h2
theorem UR(c:Cd)(l:List Hd)(hl:l.length=c.slots.length):∀ (j:Nat),j<=c.slots.length->∀k (h:k<c.slots.length),(Ye c l j)[k]? =if k<j/\c.slots[k].keep=false then some (Bf c c.slots[k])else l[k]?
 |0,_,k,h=>by simp[Ye]
 |j+1,hj,k,h=>by
  have ih:=UR c l hl j oM;unfold Ye;rw[gB (show j<c.slots.length by omega)];simp only;cases hkp:c.slots[j].keep with
  |true=>
   simp only[if_true];rw[ih k h];by_cases e:k=j
   .subst e;rw[hkp];simp
   .have:k<j+1↔k<j:=oM;simp only[this]
  |false=>
   simp only[Bool.false_eq_true,if_false];by_cases e:k=j
   .subst e;rw[List.getElem?_set_self (by rw[GZ,hl];exact h),if_pos ⟨oM,hkp⟩]
   .rw[List.getElem?_set_ne (fun q=>e q.symm),ih k h];have:k<j+1↔k<j:=oM;simp only[this]
def Nn(c:Cd)(l:List Hd):List Hd:=Ye c l c.slots.length
theorem Es{c:Cd}{l:List Hd}(hl:l.length=c.slots.length):(Nn c l).length=c.slots.length:=by unfold Nn;rw[GZ,hl]
theorem Jw{c:Cd}{l:List Hd}(hl:l.length=c.slots.length){k:Nat}(h:k<c.slots.length)(h':k<(Nn c l).length):(Nn c l)[k]=if c.slots[k].keep then l[k]'oM else Bf c c.slots[k]:=by
 have h1:=UR c l hl c.slots.length (gF _) k h;have h2:(Nn c l)[k]? =some ((Nn c l)[k]):=gB h';unfold Nn at h2 |-;rw[h2]at h1;cases hkp:c.slots[k].keep with
 |true=>
  rw[hkp,if_neg sM,gB oM]at h1;simp only[Option.some.injEq]at h1;simp only[if_true];exact h1
 |false=>
  rw[if_pos ⟨h,hkp⟩]at h1;simp only[Option.some.injEq]at h1;simp only[Bool.false_eq_true,if_false];exact h1
def f4v(a b c d:Value)(k:Nat):Value:=if k=0 then a else if k=1 then b else if k=2 then c else d
theorem f4v_ok(a b c d:Value):∀k,k<(#[a,b,c,d]:Array Value).size->(#[a,b,c,d]:Array Value)[k]? =some (f4v a b c d k):=by
 intro k hk;have hk':k<4:=hk;obtain rfl|rfl|rfl|rfl:k=0\/k=1\/k=2\/k=3:=oM
 all_goals rfl
structure SB(w:World)(a0 a1 a2 a3 a4:Value)(v:World):Prop where
 bel:Below w.heap.size w v
 r:v.rowIs w.heap.size 43 5 (f5 a0 a1 a2 a3 a4)
 q:v.rowIs (w.heap.size+1) 43 5 (f5 (.slice none 0 0) (.slice none 0 0) (.slice none 0 0) (.slice none 0 0) (.slice none 0 0))
 c:v.rowIs (w.heap.size+1+1) 27 4 (f4v a0 a1 a2 a3)
theorem SB.next{w:World}{a0 a1 a2 a3 a4:Value}{v v':World}(h:SB w a0 a1 a2 a3 a4 v)(k:Below v.heap.size v v'):SB w a0 a1 a2 a3 a4 v':=
 ⟨Go.Proofs.YtnbccaicijcklaaGreat.bel h.bel k,h.r.of_block (k.block _ h.r.lt),h.q.of_block (k.block _ h.q.lt),h.c.of_block (k.block _ h.c.lt)⟩
theorem SB.start(w:World)(a0 a1 a2 a3 a4:Value):SB w a0 a1 a2 a3 a4 (((w.alloc (.cells #[a0,a1,a2,a3,a4] 43)).alloc (.cells #[.slice none 0 0,.slice none 0 0,.slice none 0 0,.slice none 0 0,.slice none 0 0] 43)).alloc (.cells #[a0,a1,a2,a3] 27)):=by
 have r1:=World.rowIs_alloc w #[a0,a1,a2,a3,a4] 43 _ (FE _ _ _ _ _);have r2:=World.rowIs_alloc (w.alloc (.cells #[a0,a1,a2,a3,a4] 43)) #[.slice none 0 0,.slice none 0 0,.slice none 0 0,.slice none 0 0,.slice none 0 0] 43 _ (FE _ _ _ _ _);have r3:=World.rowIs_alloc ((w.alloc (.cells #[a0,a1,a2,a3,a4] 43)).alloc (.cells #[.slice none 0 0,.slice none 0 0,.slice none 0 0,.slice none 0 0,.slice none 0 0] 43)) #[a0,a1,a2,a3] 27 _ (f4v_ok _ _ _ _);simp only[World.size_alloc]at r2 r3;exact⟨Go.Proofs.YtnbccaicijcklaaGreat.bel (A0 _ _) (Go.Proofs.YtnbccaicijcklaaGreat.bel (A0 _ _) (A0 _ _)),(r1.alloc _).alloc _,r2.alloc _,r3⟩
theorem SB.size{w:World}{a0 a1 a2 a3 a4:Value}{v:World}(h:SB w a0 a1 a2 a3 a4 v):w.heap.size+1+1<v.heap.size:=h.c.lt
structure Jv(w:World)(a0 a1 a2 a3 a4:Value)(FB:Nat)(F:Nat->Value)(v:World):Prop where
 b:SB w a0 a1 a2 a3 a4 v
 f:v.rowIs FB 110 10 F
 hF:w.heap.size+1+1<FB
theorem Jv.next{w:World}{a0 a1 a2 a3 a4:Value}{FB:Nat}{F:Nat->Value}{v v':World}(h:Jv w a0 a1 a2 a3 a4 FB F v)(k:Below v.heap.size v v'):Jv w a0 a1 a2 a3 a4 FB F v':=⟨h.b.next k,h.f.of_block (k.block _ h.f.lt),h.hF⟩
theorem Jv.below{w:World}{a0 a1 a2 a3 a4:Value}{FB B:Nat}{F:Nat->Value}{v v':World}(h:Jv w a0 a1 a2 a3 a4 FB F v)(k:Below B v v')(hB:FB<B):Jv w a0 a1 a2 a3 a4 FB F v':=by
 have hF:=h.hF;have hs:=h.b.bel.size;have hlt:=h.f.lt;refine⟨⟨⟨k.os.trans h.b.bel.os,k.tape.trans h.b.bel.tape,k.output.trans h.b.bel.output,gH hs k.size,fun x hx=>(k.block x oM).trans (h.b.bel.block x hx)⟩,h.b.r.of_block (k.block _ oM),h.b.q.of_block (k.block _ oM),h.b.c.of_block (k.block _ oM)⟩,h.f.of_block (k.block _ hB),h.hF⟩
theorem Jv.put{w:World}{a0 a1 a2 a3 a4:Value}{FB:Nat}{F:Nat->Value}{v:World}(h:Jv w a0 a1 a2 a3 a4 FB F v)(i:Nat)(x:Value):Jv w a0 a1 a2 a3 a4 FB (fun j=>if j=i then x else F j) (v.setCell ⟨FB,i,none⟩ x):=by
 have hF:=h.hF;exact⟨⟨h.b.bel.setCell (by show w.heap.size<=FB;omega) _,h.b.r.setOther (by show w.heap.size≠FB;omega) _,h.b.q.setOther (by show w.heap.size+1≠FB;omega) _,h.b.c.setOther (by show w.heap.size+1+1≠FB;omega) _⟩,h.f.set i x,h.hF⟩
theorem Jv.congr{w:World}{a0 a1 a2 a3 a4:Value}{FB:Nat}{F F':Nat->Value}{v:World}(h:Jv w a0 a1 a2 a3 a4 FB F v)(k:∀j,j<10->F j=F' j):Jv w a0 a1 a2 a3 a4 FB F' v:=⟨h.b,h.f.congr k,h.hF⟩
theorem E4{P:Nat->Prop}(h0:P 0)(h1:P 1)(h2:P 2)(h3:P 3)(h4:P 4)(h5:P 5)(h6:P 6)(h7:P 7)(h8:P 8)(h9:P 9):∀j,j<10->P j:=by
 intro j hj;obtain rfl|rfl|rfl|rfl|rfl|rfl|rfl|rfl|rfl|rfl:j=0\/j=1\/j=2\/j=3\/j=4\/j=5\/j=6\/j=7\/j=8\/j=9:=oM
 all_goals assumption
theorem Jv.putT{w:World}{a0 a1 a2 a3 a4:Value}{FB:Nat}{F:Nat->Value}{v:World}(h:Jv w a0 a1 a2 a3 a4 FB F v)(b0 b1 b2 b3 b4 b5 b6 b7 b8 b9:Value):Jv w a0 a1 a2 a3 a4 FB (D4 b0 b1 b2 b3 b4 b5 b6 b7 b8 b9) (N9 v FB b0 b1 b2 b3 b4 b5 b6 b7 b8 b9):=
 ((((((((((h.put 0 b0).put 1 b1).put 2 b2).put 3 b3).put 4 b4).put 5 b5).put 6 b6).put 7 b7).put 8 b8).put 9 b9).congr (E4 rfl rfl rfl rfl rfl rfl rfl rfl rfl rfl)
def T4(w:World)(T:Nat->Prop)(FB:Nat)(b:Nat):Prop:=T b\/(w.heap.size<=b/\b<=w.heap.size+1+1)\/b=FB
theorem Mj{w:World}{T:Nat->Prop}{FB:Nat}(hT:∀b,T b->b<w.heap.size)(hF:w.heap.size+1+1<FB){B:Nat}(hB:FB<B){b:Nat}(h:T4 w T FB b):b<B:=by
 rcases h with h|h|h
 .have:=hT b h;omega
 .omega
 .omega
theorem t4_old{w:World}{T:Nat->Prop}{FB b:Nat}(hF:w.heap.size+1+1<FB)(hb:b<w.heap.size)(h:T4 w T FB b):T b:=by
 rcases h with h|h|h
 .exact h
 .omega
 .omega
theorem Tq(m:Nat)(h:m<=16384)(w:World):(Instr.makeSlice 41 (.int .i64 m) (.int .i64 m)).run prog w=.ok (.slice (some ⟨w.heap.size,0,none⟩) m m) (w.alloc (.cells (madeCells #[.slice none 0 0,.int .i64 0] (m*2)) 74)):=by
 obtain⟨i,hi,hz,hs,hb⟩:=info_parts Ii;have hr:=run_make (P:=prog) w 41 74 i _ underlying41 hi hz .i64 .i64 m m oM (Int.le_refl _) (by rw[hb];omega) oM;rw[hs,show(Value.agg #[.slice none 0 0,.int .i64 0]).cells=#[.slice none 0 0,.int .i64 0]from rfl]at hr;simpa using hr
theorem To(m i:Nat)(hi:i<m*2):(madeCells #[.slice none 0 0,.int .i64 0] (m*2))[i]? =some (f2 (.slice none 0 0) (.int .i64 0) (i%2)):=by
 unfold madeCells;rw[Array.getElem?_map,Array.getElem?_range];simp[hi];have h2:i%2=0\/i%2=1:=oM;rcases h2 with h|h<;>rw[h]<;>rfl
def Ss(n:Nat):List Cl:=List.replicate n ⟨none,0,⟨[],0⟩⟩
theorem QX{T:Nat->Prop}{v:World}{RB m:Nat}(h:v.heap[RB]? =some (.cells (madeCells #[.slice none 0 0,.int .i64 0] (m*2)) 74 (0,0)))(hT:¬T RB):AT T v (.slice (some ⟨RB,0,none⟩) m m) (Ss m):=by
 have hlt:RB<v.heap.size:=by
  rcases Nat.lt_or_ge RB v.heap.size with h1|h1
  .exact h1
  .rw[Array.getElem?_eq_none h1]at h;cases h
 refine⟨⟨_,m,by rw[Ss,List.length_replicate],.inr ⟨RB,0,rfl,hT,hlt,fun i hi j hj=>?_⟩⟩,fun x hx=>?_⟩
 .rw[Ss,List.length_replicate]at hi;have hj2:j<2:=hj;have hc:v.cell? ⟨RB,0+i*2+j,none⟩=some (f2 (.slice none 0 0) (.int .i64 0) ((0+i*2+j)%2)):=by
   unfold World.cell?;simp only[h];exact To m _ oM
  rw[hc];simp only[Ss,List.getElem_replicate];obtain rfl|rfl:j=0\/j=1:=oM
  .rw[show(0+i*2+0)%2=0 by omega];rfl
  .rw[show(0+i*2+1)%2=1 by omega];rfl
 .rw[Ss]at hx;rw[List.eq_of_mem_replicate hx];exact .inl rfl
theorem W8{B:Nat}{V:World}{e t:TypeId}{z:Value}{sz by':Nat}(ht:prog.underlying t=some (.slice e))(hi:(prog.info? e).map (fun i=>(i.zero,i.size,i.bytes))=some (some z,sz,by'))(hzs:z.cells.size=sz)(hsz:0<sz){p:Option Addr}{n q m:Nat}{xs:List Value}(h:V.ownsRow B e sz (.slice p n q) n xs)(hB:B<=V.heap.size)
 (cs:Array Value) (hm:0<m) (hcs:cs.size=m*sz) (h1:∀u∈cs.toList,u.oneCell'=true) (hn:n+m<=maxLen) (hb:(n+m)*by'<=140737488355328) (ty:TypeId):
 ∃g c' w',(Builtin.append_ #[t,t] ty #[.slice p n q,.slice (some ⟨V.heap.size,0,none⟩) m m]).run prog (V.alloc (.cells cs e))=.ok (.slice (some ⟨g,0,none⟩) (n+m) c') w'/\Below B V w'/\w'.ownsRow B e sz (.slice (some ⟨g,0,none⟩) (n+m) c') (n+m) (xs++cs.toList)/\(∀b,b<V.heap.size->(Value.slice p n q).ownBlock≠some b->w'.heap[b]? =V.heap[b]?)/\((Value.slice p n q).ownBlock=some g\/V.heap.size<g):=by
 obtain⟨i0,hi0,hz0,hz1,hz2⟩:=info_parts hi;have hb0:Below V.heap.size V (V.alloc (.cells cs e)):=A0 _ _;have hs:(V.alloc (.cells cs e)).heap.size=V.heap.size+1:=sM;have h0:=Ak h hb0;obtain⟨g,cap,w3,hr,hown,hgrow,hat,hlt⟩:=run_append_lies (P:=prog) (V.alloc (.cells cs e)) t ty B e i0 _ sz by' ht hi0 hz0 hz1 hz2 hzs hsz (.slice p n q) n xs h0 ⟨V.heap.size,0,none⟩ m m cs.toList (by simp[hcs])
  (World.news_of_block (cs:=cs) (t:=e) (fr:=(0,0)) (heap_alloc_new V _)) h1 hm hn hb oM _ rfl
 exact Zdx
theorem sp_A{T:Nat->Prop}{w:World}{a0 a1 a2 a3 a4:Value}{v:World}{m:Nat}(h:SB w a0 a1 a2 a3 a4 v)(hT:∀b,T b->b<w.heap.size)(b0 b1 b2 b3 b5 b6 b7 b8 b9:Value):
 Jv w a0 a1 a2 a3 a4 (v.heap.size+1) (D4 b0 b1 b2 b3 (.slice (some ⟨v.heap.size,0,none⟩) m m) b5 b6 b7 b8 b9) ((v.alloc (.cells (madeCells #[.slice none 0 0,.int .i64 0] (m*2)) 74)).alloc (.cells #[b0,b1,b2,b3,.slice (some ⟨v.heap.size,0,none⟩) m m,b5,b6,b7,b8,b9] 110))/\AT (T4 w T (v.heap.size+1)) ((v.alloc (.cells (madeCells #[.slice none 0 0,.int .i64 0] (m*2)) 74)).alloc (.cells #[b0,b1,b2,b3,.slice (some ⟨v.heap.size,0,none⟩) m m,b5,b6,b7,b8,b9] 110)) (.slice (some ⟨v.heap.size,0,none⟩) m m) (Ss m):=by
 have hsz:=h.size;have r1:=World.rowIs_alloc (v.alloc (.cells (madeCells #[.slice none 0 0,.int .i64 0] (m*2)) 74)) #[b0,b1,b2,b3,.slice (some ⟨v.heap.size,0,none⟩) m m,b5,b6,b7,b8,b9] 110 _ (Mt _ _ _ _ _ _ _ _ _ _);simp only[World.size_alloc]at r1;refine⟨⟨h.next (bel (A0 _ _) (A0 _ _)),r1,oM⟩,QX ?_ ?_⟩
 .rw[(A0 (v.alloc (.cells (madeCells #[.slice none 0 0,.int .i64 0] (m*2)) 74)) _).block _ sM];exact heap_alloc_new v _
 .rintro(k|k|k)
  .have:=hT _ k;omega
  .omega
  .omega
theorem sp_B{T:Nat->Prop}{w:World}{a0 a1 a2 a3 a4:Value}{v:World}{m:Nat}(h:SB w a0 a1 a2 a3 a4 v)(hT:∀b,T b->b<w.heap.size)(b0 b1 b2 b3 b5 b6 b7 b8 b9:Value):
 Jv w a0 a1 a2 a3 a4 v.heap.size (D4 b0 b1 b2 b3 (.slice (some ⟨v.heap.size+1,0,none⟩) m m) b5 b6 b7 b8 b9) ((v.alloc (.cells #[b0,b1,b2,b3,.slice (some ⟨v.heap.size+1,0,none⟩) m m,b5,b6,b7,b8,b9] 110)).alloc (.cells (madeCells #[.slice none 0 0,.int .i64 0] (m*2)) 74))/\AT (T4 w T v.heap.size) ((v.alloc (.cells #[b0,b1,b2,b3,.slice (some ⟨v.heap.size+1,0,none⟩) m m,b5,b6,b7,b8,b9] 110)).alloc (.cells (madeCells #[.slice none 0 0,.int .i64 0] (m*2)) 74)) (.slice (some ⟨v.heap.size+1,0,none⟩) m m) (Ss m):=by
 have hsz:=h.size;have r1:=World.rowIs_alloc v #[b0,b1,b2,b3,.slice (some ⟨v.heap.size+1,0,none⟩) m m,b5,b6,b7,b8,b9] 110 _ (Mt _ _ _ _ _ _ _ _ _ _);refine⟨⟨h.next (bel (A0 _ _) (A0 _ _)),r1.alloc _,oM⟩,QX ?_ ?_⟩
 .have h1:=heap_alloc_new (v.alloc (.cells #[b0,b1,b2,b3,.slice (some ⟨v.heap.size+1,0,none⟩) m m,b5,b6,b7,b8,b9] 110)) (.cells (madeCells #[.slice none 0 0,.int .i64 0] (m*2)) 74);simp only[World.size_alloc]at h1;exact h1
 .rintro(k|k|k)
  .have:=hT _ k;omega
  .omega
  .omega
structure L1(T:Nat->Prop)(w:World)(a0 a1 a2 a3 a4:Value)(FB E:Nat)(F:Nat->Value)(v:World)(sv:Value)(Y:List Cl):Prop where
 sp:Jv w a0 a1 a2 a3 a4 FB F v
 be:E<=v.heap.size
 cs:Jt E v sv Y
 loc:∀x∈Y,∀b o s,x.p=some ⟨b,o,s⟩->x.h.pats≠[]->¬T4 w T FB b
theorem L1.next{T:Nat->Prop}{w:World}{a0 a1 a2 a3 a4:Value}{FB E:Nat}{F:Nat->Value}{v v':World}{sv:Value}{Y:List Cl}(h:L1 T w a0 a1 a2 a3 a4 FB E F v sv Y)(k:Below v.heap.size v v'):L1 T w a0 a1 a2 a3 a4 FB E F v' sv Y:=⟨h.sp.next k,gH h.be k.size,h.cs.below k,h.loc⟩
theorem L1.put{T:Nat->Prop}{w:World}{a0 a1 a2 a3 a4:Value}{FB E:Nat}{F:Nat->Value}{v v':World}{sv:Value}{Y:List Cl}(h:L1 T w a0 a1 a2 a3 a4 FB E F v sv Y)(hFE:FB<E)(k:Below E v v'){g n c':Nat}{Y':List Cl}(hc:Jt E v' (.slice (some ⟨g,0,none⟩) n c') Y')(hloc:∀x∈Y',∀b o s,x.p=some ⟨b,o,s⟩->x.h.pats≠[]->¬T4 w T FB b):
 v'.cell? ⟨FB,5,none⟩=some (F 5)/\v'.frozen? ⟨FB,5,none⟩=false/\L1 T w a0 a1 a2 a3 a4 FB E (fun j=>if j=5 then .slice (some ⟨g,0,none⟩) n c' else F j) (v'.setCell ⟨FB,5,none⟩ (.slice (some ⟨g,0,none⟩) n c')) (.slice (some ⟨g,0,none⟩) n c') Y':=by
 have hs:=h.sp.below k hFE;have ho:∀b,b≠FB->(v'.setCell ⟨FB,5,none⟩ (.slice (some ⟨g,0,none⟩) n c')).heap[b]? =v'.heap[b]? :=fun b hne=>gE hne;refine⟨hs.f.cell (i:=5) dE,hs.f.frozen 5,hs.put 5 _,?_,⟨Ac hc.own (fun b hbb=>ho b Zhl),fun x hx=>?_⟩,hloc⟩
 .have h1:=h.be;have h2:=k.size;simp only[World.size_setCell];omega
 .exact Zdf
structure Su(B:Nat)(v:World)(sv:Value)(X:List Cl):Prop where
 own:v.ownsRow B 72 1 sv X.length (Au UH X)
 nums:∀x∈X,GY v sv x.p x.h.pats
theorem Su.below{B:Nat}{v v':World}{sv:Value}{X:List Cl}(h:Su B v sv X)(k:Below v.heap.size v v'):Su B v' sv X:=⟨Ak h.own k,fun x hx=>(h.nums x hx).below k⟩
theorem Su.nil(B:Nat)(v:World):Su B v (.slice none 0 0) []:=⟨World.ownsRow_nil _ _ _ 1,fun x hx=>by cases hx⟩
theorem Su.push{B:Nat}{V:World}{p:Option Addr}{q:Nat}{X:List Cl}(h:Su B V (.slice p X.length q) X)(hB:B<=V.heap.size)(hX:X.length<=16384)(x:Cl)(hx:GY V (.slice p X.length q) x.p x.h.pats)(ty:TypeId):
 ∃g c' w',(Builtin.append_ #[88,88] ty #[.slice p X.length q,.slice (some ⟨V.heap.size,0,none⟩) 2 2]).run prog (V.alloc (.cells #[.slice x.p x.h.pats.length x.q,.slice x.p x.h.pats.length x.q] 72))=.ok (.slice (some ⟨g,0,none⟩) (X.length+2) c') w'/\Below B V w'/\Su B w' (.slice (some ⟨g,0,none⟩) (X.length+2) c') (X++[x,x]):=by
 obtain⟨g,c',w',hr,hb,ho,hk,hg⟩:=W8 (V:=V) (m:=2) underlying88 Lz rfl dE h.own hB #[.slice x.p x.h.pats.length x.q,.slice x.p x.h.pats.length x.q] dE rfl (fun u hu=>by simp at hu;subst hu;rfl) mL oM ty;refine⟨g,c',w',hr,hb,⟨?_,fun y hy=>?_⟩⟩
 .rw[List.length_append,FS];exact ho
 .rcases List.mem_append.1 hy with e|e
  .exact(h.nums y e).grow hk hg
  .simp only[List.mem_cons,List.not_mem_nil,or_false,or_self]at e;subst e;exact hx.grow hk hg
structure L2(T:Nat->Prop)(w:World)(a0 a1 a2 a3 a4:Value)(FB E:Nat)(F:Nat->Value)(v:World)(sv:Value)(Y:List Cl):Prop where
 sp:Jv w a0 a1 a2 a3 a4 FB F v
 be:E<=v.heap.size
 cs:Su E v sv Y
 loc:∀x∈Y,∀b o s,x.p=some ⟨b,o,s⟩->x.h.pats≠[]->¬T4 w T FB b
theorem L2.next{T:Nat->Prop}{w:World}{a0 a1 a2 a3 a4:Value}{FB E:Nat}{F:Nat->Value}{v v':World}{sv:Value}{Y:List Cl}(h:L2 T w a0 a1 a2 a3 a4 FB E F v sv Y)(k:Below v.heap.size v v'):L2 T w a0 a1 a2 a3 a4 FB E F v' sv Y:=⟨h.sp.next k,gH h.be k.size,h.cs.below k,h.loc⟩
theorem L2.put{T:Nat->Prop}{w:World}{a0 a1 a2 a3 a4:Value}{FB E:Nat}{F:Nat->Value}{v v':World}{sv:Value}{Y:List Cl}(h:L2 T w a0 a1 a2 a3 a4 FB E F v sv Y)(hFE:FB<E)(k:Below E v v'){g n c':Nat}{Y':List Cl}(hc:Su E v' (.slice (some ⟨g,0,none⟩) n c') Y')(hloc:∀x∈Y',∀b o s,x.p=some ⟨b,o,s⟩->x.h.pats≠[]->¬T4 w T FB b):
 v'.cell? ⟨FB,6,none⟩=some (F 6)/\v'.frozen? ⟨FB,6,none⟩=false/\L2 T w a0 a1 a2 a3 a4 FB E (fun j=>if j=6 then .slice (some ⟨g,0,none⟩) n c' else F j) (v'.setCell ⟨FB,6,none⟩ (.slice (some ⟨g,0,none⟩) n c')) (.slice (some ⟨g,0,none⟩) n c') Y':=by
 have hs:=h.sp.below k hFE;have ho:∀b,b≠FB->(v'.setCell ⟨FB,6,none⟩ (.slice (some ⟨g,0,none⟩) n c')).heap[b]? =v'.heap[b]? :=fun b hne=>gE hne;refine⟨hs.f.cell (i:=6) dE,hs.f.frozen 6,hs.put 6 _,?_,⟨Ac hc.own (fun b hbb=>ho b Zhl),fun x hx=>?_⟩,hloc⟩
 .have h1:=h.be;have h2:=k.size;simp only[World.size_setCell];omega
 .exact Zdf
theorem ZG{T:Nat->Prop}{E:Nat}{v:World}{sv:Value}{Y:List Cl}(h:Su E v sv Y)(hT:∀b,T b->b<E)(hl:∀x∈Y,∀b o s,x.p=some ⟨b,o,s⟩->x.h.pats≠[]->¬T b):Ie T v sv Y:=by
 refine⟨Hl Jp h.own hT,fun x hx=>?_⟩;exact Zec
def MQ(c:Cd)(j:Nat):List Hd:=(List.range (2*j)).map fun i=>⟨List.replicate (lenOf c ((i/2:Nat):Int)) 0,0⟩
theorem Tv(c:Cd)(j:Nat):MQ c (j+1)=MQ c j++[⟨List.replicate (lenOf c (j:Int)) 0,0⟩,⟨List.replicate (lenOf c (j:Int)) 0,0⟩]:=by
 unfold MQ;rw[show 2*(j+1)=2*j+1+1 by omega,Ek,Ek,List.append_assoc,show 2*j/2=j by omega,show(2*j+1)/2=j by omega];rfl
theorem TL{c:Cd}{l:List Hd}{Y O:List Cl}(hg:Good c)(hso:Ib c l)(hY:Y.map (·.h)=Nn c l)(hO:O.map (·.h)=MQ c c.sign.length):P9 c (BY c l) (Ss c.regs.length) Y O:=by
 have hol:O.length=2*c.sign.length:=by have h1:=congrArg List.length hO;rw[List.length_map,MQ,List.length_map,List.length_range]at h1;exact h1
 refine⟨by rw[Ss,List.length_replicate],fun x hx=>?_,hY,fun j h h2=>?_,hol,fun p n hp hn=>?_⟩
 .rw[Ss]at hx;rw[List.eq_of_mem_replicate hx];exact⟨fun y hy=>(by cases hy),gI _,Int.le_refl _,by show(0:Int)<=2147483647;decide⟩
 .show(((Nn c l)[j]?).getD ⟨[],0⟩).whole=0;have hjl:j<(Nn c l).length:=by rw[Es hso.len];exact h
  rw[gB hjl,Option.getD_some,Jw hso.len h hjl];split
  .have h3:=hso.z j h h2;rw[gB (by rw[hso.len];exact h),Option.getD_some]at h3;exact h3
  .exact QV hg (gD h) h2
 .have hn2:n<2:=by unfold AI at hn;split at hn<;>omega
  have hil:2*p+n<O.length:=by rw[hol];omega
  have hoh:(O[2*p+n]).h=⟨List.replicate (lenOf c (p:Int)) 0,0⟩:=by
   have h5:(O.map (·.h))[2*p+n]? =some (O[2*p+n]).h:=by rw[List.getElem?_map,gB hil];rfl
   rw[hO,MQ,List.getElem?_map,List.getElem?_range oM]at h5;simp only[Option.map_some,Option.some.injEq]at h5;rw[<-h5,show(2*p+n)/2=p by omega]
  refine⟨O[2*p+n],gB hil,by rw[hoh];simp,fun y hy=>?_,fun e he=>?_⟩
  .rw[hoh]at hy;simp only at hy;rw[List.eq_of_mem_replicate hy];exact JM
  .rw[hoh];show CG (List.replicate (lenOf c (p:Int)) 0) e=0;rw[Ji _ _ he]
theorem VS{c:Cd}{l:List Hd}(hg:Good c)(hk:Ba c)(hso:Ib c l):KK c (BY c l):=by
 refine⟨fun _=>JM,fun _=>⟨Int.le_refl _,by show(0:Int)<=2147483647;decide⟩,fun _ y hy=>(by cases hy),fun _=>gI _,Es hso.len,fun j h h'=>?_⟩;have h3:j<(Nn c l).length:=h';show P6 c c.slots[j].ty ((Nn c l)[j]'h3);rw[Jw hso.len h h3];split
 .exact hso.ok j h (by rw[hso.len];exact h)
 .exact Nv hg (gD h) (hk.sbits _ (gD h))

section
variable {c : Cd} {G P : List (List Int)} {f f' : Fr} {i i' : Ad}
end

section
variable {c : Cd} {G P : List (List Int)} {f f' : Fr}
end
section
variable {c : Cd} {G P : List (List Int)} {f f' : Fr} {i : Ad} {L R : List Ad} {s : RW} {x x' : Wk} {k : Nat}
end
theorem Me{c:Cd}(hg:Good c)(hk:Ba c):Ib c (BC c):=
 ⟨(by unfold BC;simp),fun j h h'=>(by rw[Mf h' h];exact Nv hg (gD h) (hk.sbits _ (gD h))),start_z hg⟩

section
variable {c : Cd} {G P : List (List Int)}
abbrev Pb(c:Cd)(l l':List Hd):Prop:=Y8 c (pruneC c) (usS c.list) (AA (usS c.list)) l l'
theorem Nu{c c':Cd}(h:c'.sign=c.sign)(s:Sl):Bf c' s=Bf c s:=by
 unfold Bf DU B4 lenOf;rw[h]
theorem Pb.start:Pb c (BC c) (BC (pruneC c)):=by
 refine⟨by unfold BC;simp,by unfold BC;simp,fun n hn hl=>?_⟩;obtain⟨s1,s2⟩:=Hs hl hn;unfold BC;rw[List.getElem?_map,List.getElem?_map];show Option.map _ ((AU (usS c.list) c.slots)[_]?)=_;rw[s2];cases c.slots[n]? with
 |none=>rfl
 |some s=>simp only[Option.map_some];rw[Nu (c:=c) (c':=pruneC c) rfl]
theorem Pb.ahead{l l':List Hd}(h:Pb c l l'):Pb c (Nn c l) (Nn (pruneC c) l'):=by
 have e1:=Es h.len;have e2:=Es (c:=pruneC c) h.len';refine⟨e1,e2,fun n hn hl=>?_⟩;obtain⟨s1,s2⟩:=Hs hl hn;have hs1:AA (usS c.list) n<(pruneC c).slots.length:=s1;rw[gB (by rw[e2];exact hs1),gB (by rw[e1];exact hl),Jw h.len hl,Jw (c:=pruneC c) h.len' hs1];have s3:(pruneC c).slots[AA (usS c.list) n]'hs1=c.slots[n]:=by
  have h9:(pruneC c).slots[AA (usS c.list) n]? =c.slots[n]? :=s2;rw[gB hs1,gB hl]at h9;simpa using h9
 have h5:=h.eq n hn hl;rw[gB (by rw[h.len'];exact hs1),gB (by rw[h.len];exact hl)]at h5;simp only[Option.some.injEq]at h5 |-;rw[s3,Nu (c:=c) (c':=pruneC c) rfl,h5]
theorem Tz(hc:(Ai c).1=0){l l':List Hd}(h:Pb c l l'):Pb c (EO c l G P).slots (EO (pruneC c) l' G P).slots/\Gg (pruneC c) (EO (pruneC c) l' G P)=Gg c (EO c l G P):=by
 obtain⟨h1,h2,h3⟩:=Bi.1 hc;have hs:Pb c (BY c l).slots (BY (pruneC c) l').slots:=Pb.ahead h;obtain⟨g,g',k,k',r1,r2,-,r4,r5⟩:=ZM (G:=G) (P:=P) (Is h2) (Qi h2) h2 (f0:=BY c l) (f0':=BY (pruneC c) l') hs rfl c.list.length (gF _);rw[List.take_length]at r1;have e1:EO c l G P=g:=by unfold EO;rw[r1]
 have e2:EO (pruneC c) l' G P=g':=by
  unfold EO;show(UG (pruneC c) G P (BY (pruneC c) l',0) (Bc _ _ c.list c.list.length)).1=g';rw[r2]
 rw[e1,e2];refine⟨r4,?_⟩;show Gg c g'=Gg c g;unfold Gg;rw[r5]
end
end Go.Proofs.YtnbccaicijcklaaGreat
