import Derived.Test.YtnbccaicijcklaaGreatMns10
import Derived.Test.YtnbccaicijcklaaGreatMns11
import Derived.Test.YtnbccaicijcklaaGreatMns8
import Derived.Test.YtnbccaicijcklaaGreatMns1
import Derived.Deep.CutBlock
import Derived.Deep.DeepCutAuto
import Derived.Test.YtnbccaicijcklaaGreatMns5
import Derived.Test.YtnbccaicijcklaaGreatMns7
import Derived.Test.YtnbccaicijcklaaGreatMns6
namespace Go.Proofs.YtnbccaicijcklaaGreat
open Go.RowKit Go.Proofs.Tryz
set_option linter.all false
set_option maxRecDepth 100000
set_option maxHeartbeats 16000000
theorem Xz(c:Cd)(hg:Good c)(v0 v1 v2 v3 ru su ou gu pu ct:Value)(f:Fr)(X S O:List Cl)(rel:P9 c f X S O)(w:World)(hv:CE w v0 v1 v2 v3 c)(hou:OuV w ou O):
 Calls prog 44 #[.agg #[v0,v1,v2,v3,ru,su,ou,gu,pu,ct]] w fun e w'=>∃p q,e=.returned (.slice p c.sign.length q)/\F7 (fun b=>b<w.heap.size) w' (.slice p c.sign.length q) (Gg c f)/\Below w.heap.size w w':=by
 have hsl:=hg.signL;have hol:=rel.ol;obtain⟨p0,q0,rfl,-⟩:=id hv.sign;obtain⟨po,qo,rfl,-⟩:=id hou.row;have HSG:Hid (AV 3 AY w (.slice p0 c.sign.length q0) c.sign):=hv.sign;have HOU:Hid (OuV w (.slice po O.length qo) O):=hou;have HRL:Hid (Good c/\P9 c f X S O):=⟨hg,rel⟩
 obtain⟨n0,hn0⟩:∃n,c.sign.length=n:=⟨_,rfl⟩
 have HN0:Hid (c.sign.length=n0):=hn0;obtain⟨M,hM⟩:∃n,O.length=n:=⟨_,rfl⟩
 have HM:Hid (O.length=M/\M=2*n0):=⟨hM,oM⟩
 rw[hn0]at hsl HSG |-;rw[hM]at HOU |-;have HC:Hid (∀v,Below (w.alloc (.cells #[.slice p0 n0 q0,v1,v2,v3,ru,su,.slice po M qo,gu,pu,ct] 110)).heap.size (w.alloc (.cells #[.slice p0 n0 q0,v1,v2,v3,ru,su,.slice po M qo,gu,pu,ct] 110)) v->v.cell? ⟨w.heap.size,0,none⟩=some (.slice p0 n0 q0)/\v.cell? ⟨w.heap.size,6,none⟩=some (.slice po M qo)):=fun v hb=>⟨kc hb sG,kc hb sG⟩
 have hM2:M<=128:=oM;clear hg rel hol hv hou hn0 hM;go_enter func44,ntmps44;go_wp2
 go_loopw [3,4] (fun ov iv wr=>Below (w.alloc (.cells #[.slice p0 n0 q0,v1,v2,v3,ru,su,.slice po M qo,gu,pu,ct] 110)).heap.size (w.alloc (.cells #[.slice p0 n0 q0,v1,v2,v3,ru,su,.slice po M qo,gu,pu,ct] 110)) wr/\∃ (j:Nat) (p:Option Addr) (q:Nat) (Y:List Cu),j<=n0/\iv=.int .i64 (j:Int)/\ov=.slice p j q/\Hid (OW (w.alloc (.cells #[.slice p0 n0 q0,v1,v2,v3,ru,su,.slice po M qo,gu,pu,ct] 110)).heap.size wr (.slice p j q) Y)/\Hid (Y.map (·.l)=(List.range j).map (OT c f))) (fun _ iv _=>n0-(intOf iv).toNat)
 case atStart=>exact⟨BZ _,0,none,0,[],gI _,rfl,rfl,OW.nil _ _,rfl⟩
 case round=>
  obtain⟨hb,j,p,q,Y,hj,rfl,rfl,hvs,hmap⟩:=hrel;obtain⟨c0,c6⟩:=HC.out wr hb;have HYL:Hid (Y.length=j):=by
   have h5:=congrArg List.length hmap.out;rw[List.length_map,List.length_map,List.length_range]at h5;exact h5
  by_cases hlt:j<n0
  .have hjl:j<c.sign.length:=by rw[HN0.out];exact hlt
   have hol:2*j<O.length:=by rw[HM.1,HM.2];omega
   obtain⟨lb,lo,rfl,hx⟩:=HSG.at hjl;obtain⟨ob,oo,rfl,hxo⟩:=HOU.row.at hol;have HB:Hid (Below (w.alloc (.cells #[.slice (some ⟨lb,lo,none⟩) n0 q0,v1,v2,v3,ru,su,.slice (some ⟨ob,oo,none⟩) M qo,gu,pu,ct] 110)).heap.size (w.alloc (.cells #[.slice (some ⟨lb,lo,none⟩) n0 q0,v1,v2,v3,ru,su,.slice (some ⟨ob,oo,none⟩) M qo,gu,pu,ct] 110)) wr):=hb;have HBW:Hid (Below w.heap.size w wr):=bel (A0 _ _) hb;have hln:=JR HRL.1 hjl;obtain⟨hnum,-,hl1,hl2,hap⟩:=JX HRL.1 hjl;have hk2:AI c (j:Int)=if c.sign[j].kind=2 then 2 else 1:=by unfold AI CV;simp[hjl]
   obtain⟨o1,ho1,ho2,ho3,ho4⟩:=HRL.2.oo j 0 hjl oM;rw[Nat.add_zero,gB hol]at ho1;simp only[Option.some.injEq]at ho1;rw[ho1]at hxo;have hno:=HOU.nums o1 (by rw[<-ho1];exact gD hol);obtain⟨⟨nm,K,L⟩,hT⟩:∃t:BM,c.sign[j]=t:=⟨_,rfl⟩
   rw[hT]at hx hln hl1 hl2 hk2;simp only at hln hl1 hl2 hk2;obtain⟨ln,hlnn⟩:∃n,lenOf c (j:Int)=n:=⟨_,rfl⟩
   rw[hlnn]at ho2 ho4 hln hnum;subst hln;have hlnb:ln<=4096:=oM;have u1:wr.cell? ⟨ob,oo+2*j,none⟩=some (.slice o1.p ln o1.q):=by
    have h1:=kc HBW.out (hxo.at 0 (v:=.slice o1.p o1.h.pats.length o1.q) rfl);rw[Nat.mul_one,Nat.add_zero,ho2]at h1;exact h1
   obtain⟨nb,no,hpe,hnc⟩:∃b o,o1.p=some ⟨b,o,none⟩/\∀m,m<o1.h.pats.length->w.cell? ⟨b,o+m,none⟩=some (.int .i64 (CH o1.h.pats m)):=by
    rcases hno with e|⟨b,o,e,h⟩
    .omega
    .exact⟨b,o,e,h⟩
   rw[hpe]at u1;have y0:=kc HBW.out (hx.at 0 rfl);have y1:=kc HBW.out (hx.at 1 rfl);have y2:=kc HBW.out (hx.at 2 rfl);rw[Nat.add_zero]at y0;have i1:(0:Int)<=(j:Int):=oM;have i2:(j:Int)<(n0:Int):=oM;have w1:IntKind.i64.wrap (2*(j:Int))=((2*j:Nat):Int):=by rw[IntKind.wrap_i64];omega
   have i3:(0:Int)<=((2*j:Nat):Int):=oM;have i4:((2*j:Nat):Int)<(M:Int):=by have:=HM.2;omega
   clear hb ho1 hol hxo hno hl1 hl2 hlnn hpe;by_cases hK:K=2
   .rw[if_pos hK]at hk2;have hKb:(K==2)=true:=by simpa using hK
    have hol2:2*j+1<O.length:=by rw[HM.1,HM.2];omega
    obtain⟨ob',oo',hpo',hxo2⟩:=HOU.row.at hol2;simp only[Option.some.injEq,Addr.mk.injEq,and_true]at hpo';obtain⟨rfl,rfl⟩:=hpo';obtain⟨o2,ho1',hp2,hp3,hp4⟩:=HRL.2.oo j 1 hjl oM;rw[gB hol2]at ho1';simp only[Option.some.injEq]at ho1';rw[ho1']at hxo2;have hno2:=HOU.nums o2 (by rw[<-ho1'];exact gD hol2);have hlnn:lenOf c (j:Int)=ln:=by have h1:=hnum;first|(have:=JR HRL.1 hjl;rw[hT]at this;simp only at this;omega)
    rw[hlnn]at hp2 hp4;have u2:wr.cell? ⟨ob,oo+(2*j+1),none⟩=some (.slice o2.p ln o2.q):=by
     have h1:=kc HBW.out (hxo2.at 0 (v:=.slice o2.p o2.h.pats.length o2.q) rfl);rw[Nat.mul_one,Nat.add_zero,hp2]at h1;exact h1
    obtain⟨nb2,no2,hpe2,hnc2⟩:∃b o,o2.p=some ⟨b,o,none⟩/\∀m,m<o2.h.pats.length->w.cell? ⟨b,o+m,none⟩=some (.int .i64 (CH o2.h.pats m)):=by
     rcases hno2 with e|⟨b,o,e,h⟩
     .have:=HRL.1.len _ (gD hjl);rw[hT]at this;simp only at this;omega
     .exact⟨b,o,e,h⟩
    rw[hpe2]at u2;have w2:IntKind.i64.wrap (((2*j:Nat):Int)+1)=((2*j+1:Nat):Int):=by rw[IntKind.wrap_i64];omega
    have i5:(0:Int)<=((2*j+1:Nat):Int):=oM;have i6:((2*j+1:Nat):Int)<(M:Int):=by have:=HM.2;omega
    replace hap:AI c (j:Int)=2:=hk2
    clear ho1' hol2 hxo2 hno2 hlnn hpe2 hk2 hK hT hjl;have HV1:Hid (∀m,m<ln->wr.cell? ⟨nb,no+m,none⟩=some (.int .i64 (f.outs j (2*m)))):=fun m hm=>by
     have h1:=kc HBW.out (hnc m (by rw[ho2];exact hm));rw[ho4 m hm]at h1;rw[hap]at h1;exact h1
    have HP1:Hid (∀m,m<ln->AH (f.outs j (2*m))):=fun m hm=>by
     have h1:=CS ho3 m;rw[ho4 m hm]at h1;rw[hap]at h1;exact h1
    have HV2:Hid (∀m,m<ln->wr.cell? ⟨nb2,no2+m,none⟩=some (.int .i64 (f.outs j (2*m+1)))):=fun m hm=>by
     have h1:=kc HBW.out (hnc2 m (by rw[hp2];exact hm));rw[hp4 m hm,hap]at h1;exact h1
    have HP2:Hid (∀m,m<ln->AH (f.outs j (2*m+1))):=fun m hm=>by
     have h1:=CS hp3 m;rw[hp4 m hm,hap]at h1;exact h1
    have HUU:Hid (OT c f j=(List.range (2*ln)).map (f.outs j)):=by
     show _=_;unfold OT;rw[hnum,hap]
    have b6:=fun v (hb:Below wr.heap.size wr v)=>kc hb c6;have b7:=fun v (hb:Below wr.heap.size wr v)=>kc hb u1;have b8:=fun v (hb:Below wr.heap.size wr v)=>kc hb u2;have HB6:Hid _:=b6;have HB7:Hid _:=b7;have HB8:Hid _:=b8;clear ho2 ho3 ho4 hnc hx hap hnum b6 b7 hp2 hp3 hp4 hnc2 b8;go_wp2;have HEC:Hid (∀v,Below (wr.alloc (.cells #[.string nm,.int .i64 K,.int .i64 (ln:Int)] 67)).heap.size (wr.alloc (.cells #[.string nm,.int .i64 K,.int .i64 (ln:Int)] 67)) v->v.cell? ⟨wr.heap.size,1,none⟩=some (.int .i64 K)/\v.cell? ⟨wr.heap.size,2,none⟩=some (.int .i64 (ln:Int))/\Below wr.heap.size wr v):=fun v hb=>⟨kc hb sG,kc hb sG,bel (A0 _ _) hb⟩
    have hEs:wr.heap.size<(wr.alloc (.cells #[.string nm,.int .i64 K,.int .i64 (ln:Int)] 67)).heap.size:=sM;obtain⟨WE,hWE⟩:∃W,(wr.alloc (.cells #[.string nm,.int .i64 K,.int .i64 (ln:Int)] 67))=W:=⟨_,rfl⟩
    rw[hWE]at HEC hEs;try rw[hWE]
    clear hWE c0 c6 y0 y1 y2 u1 u2
    go_loopw [6,7] (fun vv kv wx=>Below WE.heap.size WE wx/\∃ (m:Nat) (pv:Option Addr) (qv:Nat),m<=ln/\kv=.int .i64 (m:Int)/\vv=.slice pv (2*m) qv/\Hid (wx.ownsRow WE.heap.size 38 1 (.slice pv (2*m) qv) (2*m) (MX ((List.range (2*m)).map (f.outs j))))) (fun _ kv _=>ln-(intOf kv).toNat)
    case atStart=>exact⟨BZ _,0,none,0,gI _,rfl,rfl,World.ownsRow_nil _ _ _ 1⟩
    case round=>
     obtain⟨hbx,m,pv,qv,hm,rfl,rfl,how⟩:=hrel;rename World=>wx;obtain⟨e1,e2,hbw⟩:=HEC.out wx hbx;have HBX:Hid (Below WE.heap.size WE wx):=hbx;have c6:=HB6.out wx hbw;have u1:=HB7.out wx hbw;have u2:=HB8.out wx hbw;by_cases hml:m<ln
     .have a1:=kc hbw (HV1.out m hml);have hPz:=HP1.out m hml;have a2:=kc hbw (HV2.out m hml);have hPy:=HP2.out m hml;obtain⟨z,hz⟩:=gA (f.outs j (2*m))
      have HZ:Hid (f.outs j (2*m)=z):=hz;rw[hz]at a1 hPz;have tz:IntKind.u32.wrap z=z:=by rw[IntKind.wrap_u32];have:=hPz.1;have:=hPz.2;omega
      obtain⟨g,c',w8,hap1,hb8,ho8,-⟩:=Gq (V:=wx) underlying78 JL rfl dE how.out hbx.size #[.int .u32 z] rfl Zgq mL oM 78;have HAP1:Hid _:=hap1;obtain⟨y,hy⟩:∃z,f.outs j (2*m+1)=z:=⟨_,rfl⟩
      have HY:Hid (f.outs j (2*m+1)=y):=hy;rw[hy]at a2 hPy;have ty:IntKind.u32.wrap y=y:=by rw[IntKind.wrap_u32];have:=hPy.1;have:=hPy.2;omega
      have hb8':=hbx.trans hb8;obtain⟨g2,c2,w9,hap2,hb9,ho9,-⟩:=Gq (V:=w8) underlying78 JL rfl dE ho8 hb8'.size #[.int .u32 y] rfl Zgq mL oM 78;have HAP2:Hid _:=hap2;have HNX:Hid (w9.ownsRow WE.heap.size 38 1 (.slice (some ⟨g2,0,none⟩) (2*(m+1)) c2) (2*(m+1)) (MX ((List.range (2*(m+1))).map (f.outs j)))):=by
       show World.ownsRow _ _ _ _ _ _ _;rw[show 2*(m+1)=2*m+1+1 by omega,Ek,Ek,Iq,Iq,HZ.out,HY.out];exact ho9
      have HB9:Hid (Below WE.heap.size WE w9):=hb8'.trans hb9;obtain⟨e3,e4,hbw8⟩:=HEC.out w8 hb8';have k6:=HB6.out w8 hbw8;have k7:=HB8.out w8 hbw8;have k8:=kc hbw8 (HV2.out m hml);rw[hy]at k8;have t0:(m:Int)<(ln:Int):=oM;have t5:IntKind.i64.wrap ((m:Int)+1)=((m+1:Nat):Int):=by rw[IntKind.wrap_i64];omega
      clear hap1 hb8 ho8 hz how hbx hbw hbw8 hap2 hb8' hb9 ho9 hy;go_upto_region 12 with(at_builtin;refine AO rF _ _ _ rF _ _ _ rF rF HAP1.out ?_)
      go_wp2_with(at_builtin;refine AO rF _ _ _ rF _ _ _ rF rF HAP2.out ?_);go_roundw
      case rel=>exact⟨HB9.out,m+1,_,_,oM,gN,rfl,HNX.out⟩
      case measure=>simp[intOf];omega
     .have hme:m=ln:=oM;have e9:¬ (m:Int)<(ln:Int):=oM;have hvx:=hvs.below hbw;have hlt2:=hvs.own.lt;have HJ2:Hid (m=ln):=hme;have hPA:KU wx (.slice p j q) pv ((List.range (2*m)).map (f.outs j)):=by
       rcases RD (l:=(List.range (2*m)).map (f.outs j)) Zhk with h|⟨b,o,e,h⟩
       .exact .inl (List.length_eq_zero_iff.1 h)
       .refine .inr ⟨b,o,e,fun e5=>?_,h⟩;have h6:=EE how.out b o none e;have h7:=(hlt2 b e5).2;omega
      have hlY:Y.length=j:=HYL.out;have hvx':OW (w.alloc (.cells #[.slice (some ⟨lb,lo,none⟩) n0 q0,v1,v2,v3,ru,su,.slice (some ⟨ob,oo,none⟩) M qo,gu,pu,ct] 110)).heap.size wx (.slice p Y.length q) Y:=by rw[hlY];exact hvx
      obtain⟨g3,c3,w7,hrun,hb7,hvs7⟩:=hvx'.push (by have h1:=HB.size;have h2:=hbw.size;omega) oM ⟨pv,qv,(List.range (2*m)).map (f.outs j)⟩ (by rw[hlY];exact hPA) (fun b o s e=>by have h6:=EE how.out b o s e;have h7:=HB.size;omega) 46;rw[hlY]at hrun hvs7;simp only[List.length_map,List.length_range]at hrun;have HRUN:Hid _:=hrun;have HV7:Hid (OW (w.alloc (.cells #[.slice (some ⟨lb,lo,none⟩) n0 q0,v1,v2,v3,ru,su,.slice (some ⟨ob,oo,none⟩) M qo,gu,pu,ct] 110)).heap.size w7 (.slice (some ⟨g3,0,none⟩) (j+1) c3) (Y++[⟨pv,qv,(List.range (2*m)).map (f.outs j)⟩])):=hvs7;have HB7':Hid (Below (w.alloc (.cells #[.slice (some ⟨lb,lo,none⟩) n0 q0,v1,v2,v3,ru,su,.slice (some ⟨ob,oo,none⟩) M qo,gu,pu,ct] 110)).heap.size (w.alloc (.cells #[.slice (some ⟨lb,lo,none⟩) n0 q0,v1,v2,v3,ru,su,.slice (some ⟨ob,oo,none⟩) M qo,gu,pu,ct] 110)) w7):=(HB.trans (hbw.mono HB.size)).trans hb7;have HM7:Hid ((Y++[(⟨pv,qv,(List.range (2*m)).map (f.outs j)⟩:Cu)]).map (·.l)=(List.range (j+1)).map (OT c f)):=by
       show _=_;rw[List.map_append,hmap.out,Ek,HUU.out,HJ2.out];rfl
      exact Zcx
   .rw[if_neg hK]at hk2;have hKb:(K==2)=false:=by simpa using hK
    replace hap:AI c (j:Int)=1:=hk2
    clear hk2 hK hT hjl;have HV1:Hid (∀m,m<ln->wr.cell? ⟨nb,no+m,none⟩=some (.int .i64 (f.outs j m))):=fun m hm=>by
     have h1:=kc HBW.out (hnc m (by rw[ho2];exact hm));rw[ho4 m hm]at h1;rw[hap,Nat.one_mul]at h1;exact h1
    have HP1:Hid (∀m,m<ln->AH (f.outs j m)):=fun m hm=>by
     have h1:=CS ho3 m;rw[ho4 m hm]at h1;rw[hap,Nat.one_mul]at h1;exact h1
    have HUU:Hid (OT c f j=(List.range (ln)).map (f.outs j)):=by
     show _=_;unfold OT;rw[hnum,hap,Nat.one_mul]
    have b6:=fun v (hb:Below wr.heap.size wr v)=>kc hb c6;have b7:=fun v (hb:Below wr.heap.size wr v)=>kc hb u1;have HB6:Hid _:=b6;have HB7:Hid _:=b7;clear ho2 ho3 ho4 hnc hx hap hnum b6 b7;go_wp2;have HEC:Hid (∀v,Below (wr.alloc (.cells #[.string nm,.int .i64 K,.int .i64 (ln:Int)] 67)).heap.size (wr.alloc (.cells #[.string nm,.int .i64 K,.int .i64 (ln:Int)] 67)) v->v.cell? ⟨wr.heap.size,1,none⟩=some (.int .i64 K)/\v.cell? ⟨wr.heap.size,2,none⟩=some (.int .i64 (ln:Int))/\Below wr.heap.size wr v):=fun v hb=>⟨kc hb sG,kc hb sG,bel (A0 _ _) hb⟩
    have hEs:wr.heap.size<(wr.alloc (.cells #[.string nm,.int .i64 K,.int .i64 (ln:Int)] 67)).heap.size:=sM;obtain⟨WE,hWE⟩:∃W,(wr.alloc (.cells #[.string nm,.int .i64 K,.int .i64 (ln:Int)] 67))=W:=⟨_,rfl⟩
    rw[hWE]at HEC hEs;try rw[hWE]
    clear hWE c0 c6 y0 y1 y2 u1
    go_loopw [6,7] (fun vv kv wx=>Below WE.heap.size WE wx/\∃ (m:Nat) (pv:Option Addr) (qv:Nat),m<=ln/\kv=.int .i64 (m:Int)/\vv=.slice pv (m) qv/\Hid (wx.ownsRow WE.heap.size 38 1 (.slice pv (m) qv) (m) (MX ((List.range (m)).map (f.outs j))))) (fun _ kv _=>ln-(intOf kv).toNat)
    case atStart=>exact⟨BZ _,0,none,0,gI _,rfl,rfl,World.ownsRow_nil _ _ _ 1⟩
    case round=>
     obtain⟨hbx,m,pv,qv,hm,rfl,rfl,how⟩:=hrel;rename World=>wx;obtain⟨e1,e2,hbw⟩:=HEC.out wx hbx;have HBX:Hid (Below WE.heap.size WE wx):=hbx;have c6:=HB6.out wx hbw;have u1:=HB7.out wx hbw;by_cases hml:m<ln
     .have a1:=kc hbw (HV1.out m hml);have hPz:=HP1.out m hml;obtain⟨z,hz⟩:=gA (f.outs j m)
      have HZ:Hid (f.outs j m=z):=hz;rw[hz]at a1 hPz;have tz:IntKind.u32.wrap z=z:=by rw[IntKind.wrap_u32];have:=hPz.1;have:=hPz.2;omega
      obtain⟨g,c',w8,hap1,hb8,ho8,-⟩:=Gq (V:=wx) underlying78 JL rfl dE how.out hbx.size #[.int .u32 z] rfl Zgq mL oM 78;have HAP1:Hid _:=hap1;have HNX:Hid (w8.ownsRow WE.heap.size 38 1 (.slice (some ⟨g,0,none⟩) (m+1) c') (m+1) (MX ((List.range (m+1)).map (f.outs j)))):=by
       show World.ownsRow _ _ _ _ _ _ _;rw[Ek,Iq,HZ.out];exact ho8
      have HB9:Hid (Below WE.heap.size WE w8):=hbx.trans hb8;obtain⟨e3,e4,hbw8⟩:=HEC.out w8 (hbx.trans hb8);have t0:(m:Int)<(ln:Int):=oM;have t5:IntKind.i64.wrap ((m:Int)+1)=((m+1:Nat):Int):=by rw[IntKind.wrap_i64];omega
      clear hap1 hb8 ho8 hz how hbx hbw hbw8;go_wp2_with(at_builtin;refine AO rF _ _ _ rF _ _ _ rF rF HAP1.out ?_);go_roundw
      case rel=>exact⟨HB9.out,m+1,_,_,oM,gN,rfl,HNX.out⟩
      case measure=>simp[intOf];omega
     .have hme:m=ln:=oM;have e9:¬ (m:Int)<(ln:Int):=oM;have hvx:=hvs.below hbw;have hlt2:=hvs.own.lt;have HJ2:Hid (m=ln):=hme;have hPA:KU wx (.slice p j q) pv ((List.range (m)).map (f.outs j)):=by
       rcases RD (l:=(List.range (m)).map (f.outs j)) Zhk with h|⟨b,o,e,h⟩
       .exact .inl (List.length_eq_zero_iff.1 h)
       .refine .inr ⟨b,o,e,fun e5=>?_,h⟩;have h6:=EE how.out b o none e;have h7:=(hlt2 b e5).2;omega
      have hlY:Y.length=j:=HYL.out;have hvx':OW (w.alloc (.cells #[.slice (some ⟨lb,lo,none⟩) n0 q0,v1,v2,v3,ru,su,.slice (some ⟨ob,oo,none⟩) M qo,gu,pu,ct] 110)).heap.size wx (.slice p Y.length q) Y:=by rw[hlY];exact hvx
      obtain⟨g3,c3,w7,hrun,hb7,hvs7⟩:=hvx'.push (by have h1:=HB.size;have h2:=hbw.size;omega) oM ⟨pv,qv,(List.range (m)).map (f.outs j)⟩ (by rw[hlY];exact hPA) (fun b o s e=>by have h6:=EE how.out b o s e;have h7:=HB.size;omega) 46;rw[hlY]at hrun hvs7;simp only[List.length_map,List.length_range]at hrun;have HRUN:Hid _:=hrun;have HV7:Hid (OW (w.alloc (.cells #[.slice (some ⟨lb,lo,none⟩) n0 q0,v1,v2,v3,ru,su,.slice (some ⟨ob,oo,none⟩) M qo,gu,pu,ct] 110)).heap.size w7 (.slice (some ⟨g3,0,none⟩) (j+1) c3) (Y++[⟨pv,qv,(List.range (m)).map (f.outs j)⟩])):=hvs7;have HB7':Hid (Below (w.alloc (.cells #[.slice (some ⟨lb,lo,none⟩) n0 q0,v1,v2,v3,ru,su,.slice (some ⟨ob,oo,none⟩) M qo,gu,pu,ct] 110)).heap.size (w.alloc (.cells #[.slice (some ⟨lb,lo,none⟩) n0 q0,v1,v2,v3,ru,su,.slice (some ⟨ob,oo,none⟩) M qo,gu,pu,ct] 110)) w7):=(HB.trans (hbw.mono HB.size)).trans hb7;have HM7:Hid ((Y++[(⟨pv,qv,(List.range (m)).map (f.outs j)⟩:Cu)]).map (·.l)=(List.range (j+1)).map (OT c f)):=by
       show _=_;rw[List.map_append,hmap.out,Ek,HUU.out,HJ2.out];rfl
      exact Zcx
  .have hjn:j=n0:=oM;have e1:¬ (j:Int)<(n0:Int):=oM;have HF:Hid (F7 (fun b=>b<w.heap.size) wr (.slice p n0 q) (Gg c f)):=by
    show F7 _ _ _ _;rw[updP_eq,HN0.out,<-hjn,<-hmap.out];exact hvs.vs.mono (fun b _ e=>by simp only[World.size_alloc];omega)
   have HJ:Hid (j=n0):=hjn;have HB:Hid (Below w.heap.size w wr):=bel (A0 _ _) hb;clear hvs hmap hlt hjn hb;go_wp2;go_ret;exact⟨p,q,by rw[HJ.out];rfl,HF.out,HB.out⟩
abbrev rfV(p0 p1 p2 p3 pr p5 p6 p7 p8:Option Addr)(n0 q0 n1 q1 n2 q2 n3 q3 N qr n5 q5 n6 q6 n7 q7 n8 q8:Nat)(ct:Int):Value:=.agg #[.slice p0 n0 q0,.slice p1 n1 q1,.slice p2 n2 q2,.slice p3 n3 q3,.slice pr N qr,.slice p5 n5 q5,.slice p6 n6 q6,.slice p7 n7 q7,.slice p8 n8 q8,.int .i64 ct]
theorem Lr{T:Nat->Prop}{c:Cd}{f:Fr}{i:Ad}(hg:Good c)(L:List (List Int))(hL:F5 c L)(hp:P8 c i.d i.n)(p0 p1 p7:Option Addr)(q0 q1 n7 q7:Nat)(v2 v3:Value)(w:World)(hv:CE w (.slice p0 c.sign.length q0) (.slice p1 c.regs.length q1) v2 v3 c)(hvc:Jh w (.slice p7 n7 q7) L):
 ∃ (par sb so:Nat) (nm:ByteArray) (K:Int) (len lb lo:Nat) (tk:Int) (vb vo:Nat) (px:Option Addr) (M qx:Nat),p0=some ⟨sb,so,none⟩/\p1=some ⟨lb,lo,none⟩/\par<c.sign.length/\p7=some ⟨vb,vo,none⟩/\par<n7/\n7<=64/\w.cell? ⟨sb,so+par*3,none⟩=some (.string nm)/\w.cell? ⟨sb,so+par*3+1,none⟩=some (.int .i64 K)/\w.cell? ⟨sb,so+par*3+2,none⟩=some (.int .i64 (len:Int))/\w.cell? ⟨lb,lo+i.d.toNat*2,none⟩=some (.int .i64 tk)/\w.cell? ⟨lb,lo+i.d.toNat*2+1,none⟩=some (.int .i64 (par:Int))/\w.cell? ⟨vb,vo+par,none⟩=some (.slice px M qx)/\
  ∀v,Below w.heap.size w v->Calls prog 69 #[.agg #[.string nm,.int .i64 K,.int .i64 (len:Int)],.slice px M qx,.int .i64 i.n] v fun e w'=>∃p' q',e=.returned (.slice p' (BJ c L i).length q')/\C6 w' p' (BJ c L i)/\Below v.heap.size v w'/\∀b o s,p'=some ⟨b,o,s⟩->v.heap.size<=b:=by
 obtain⟨par,hpar,hpl⟩:=MV hg hp.r0 hp.r1 hp.kind;have hdl:i.d.toNat<c.regs.length:=by have:=hp.r0;have:=hp.r1;omega
 obtain⟨sb,so,rfl,hs⟩:=hv.sign.at hpl;obtain⟨lb,lo,rfl,hl⟩:=hv.regs.at hdl;obtain⟨p7',c7,e7,hvv⟩:=hvc;simp only[Value.slice.injEq]at e7;obtain⟨rfl,rfl,rfl⟩:=e7;have hpL:par<L.length:=by rw[hL.len];exact hpl
 obtain⟨vb,vo,px,qx,rfl,hcell,hrd⟩:=hvv par hpL;have hln:=JR hg hpl;obtain⟨hnum,hlen2,hl1,hl2,hap⟩:=JX hg hpl;have hk2:AI c (par:Int)=if c.sign[par].kind=2 then 2 else 1:=by unfold AI CV;simp[hpl]
 have hreg:c.regs[i.d.toNat].par=(par:Int):=by
  have h1:=Ea hdl;rw[show((i.d.toNat:Nat):Int)=i.d by have:=hp.r0;omega]at h1;rw[<-h1];exact hpar
 have hn0:=hp.n0;rw[hpar]at hn0;have hlv:=hL.each par hpL;obtain⟨nn,hnn⟩:∃n:Nat,i.n=(n:Int):=⟨i.n.toNat,oM⟩
 have hnk:nn<AI c (par:Int):=by
  unfold AI;rcases hn0 with e|⟨e,e2⟩
  .have:nn=0:=oM;subst this;split<;>decide
  .have:nn=1:=oM;subst this;rw[if_pos e2];decide
 refine⟨par,sb,so,c.sign[par].name,c.sign[par].kind,lenOf c (par:Int),lb,lo,c.regs[i.d.toNat].kind,vb,vo,px,L[par].length,qx,rfl,rfl,hpl,rfl,hpL,by rw[hL.len];exact hg.signL,hs.at 0 rfl,hs.at 1 rfl,by rw[hln];exact hs.at 2 rfl,hl.at 0 rfl,by rw[<-hreg];exact hl.at 1 rfl,hcell,fun v hb=>?_⟩;have hpp:BJ c L i=EF L[par] (AI c (par:Int)) nn (lenOf c (par:Int)):=by
  unfold BJ EF;rw[hpar,hnn];simp only[Int.toNat_natCast];rw[Ia hpL]
 rw[hpp,LQ,hnn];refine(Ou c.sign[par].name c.sign[par].kind (lenOf c (par:Int)) oM (AI c (par:Int)) hk2 L[par] (hL.isP _ (gD hpL)) px qx nn hnk (by rw[hlv,hnum];exact gF _) (by rw[hlv,hnum];rcases hap with e|e<;>rw[e]<;>omega) v (hrd.below hb)).mono ?_;exact fun e w' h=>h
theorem V5{T:Nat->Prop}{c:Cd}{G P:List (List Int)}{f:Fr}{i:Ad}{s:Wk}{X S O:List Cl}(hg:Good c)(ok:KK c f)(t:AG c s i=true)(hb:AH i.bits)(fg:F5 c G)(fp:F5 c P)(nd:Dy c f i)(rel:P9 c f X S O)(kn:∀r∈Ae i (A4 i.op),QM c f X r.toNat)
 (p0 p1 p2 p3 pr p5 p6 p7 p8:Option Addr) (q0 q1 q2 q3 qr q5 q6 q7 q8:Nat) (ct:Int) (w:World) (hT:∀b,T b->b<w.heap.size) (hv:CE w (.slice p0 c.sign.length q0) (.slice p1 c.regs.length q1) (.slice p2 c.slots.length q2) (.slice p3 c.list.length q3) c) (hcs:AT T w (.slice pr c.regs.length qr) X) (hss:AT T w (.slice p5 c.slots.length q5) S) (hoo:Ie T w (.slice p6 O.length q6) O) (hgu:Jh w (.slice p7 G.length q7) G) (hpu:Jh w (.slice p8 P.length q8) P):
 Calls prog 43 #[rfV p0 p1 p2 p3 pr p5 p6 p7 p8 c.sign.length q0 c.regs.length q1 c.slots.length q2 c.list.length q3 c.regs.length qr c.slots.length q5 O.length q6 G.length q7 P.length q8 ct,Ch i] w fun e w'=>∃pr' qr' p5' q5' p6' q6' X' S' O',e=.returned (rfV p0 p1 p2 p3 pr' p5' p6' p7 p8 c.sign.length q0 c.regs.length q1 c.slots.length q2 c.list.length q3 c.regs.length qr' c.slots.length q5' O.length q6' G.length q7 P.length q8 ct)/\AT T w' (.slice pr' c.regs.length qr') X'/\AT T w' (.slice p5' c.slots.length q5') S'/\Ie T w' (.slice p6' O.length q6') O'/\O'.length=O.length/\Did c G P f i X S O X' S' O'/\Below w.heap.size w w':=by
 obtain⟨hk,h2,_,h4⟩:=Ao t;have hX:=rel.xl;have hXl:=hg.regsL;have hSl:S.length=c.slots.length:=by have h1:=congrArg List.length rel.sl;rw[List.length_map,ok.slotsL]at h1;exact h1
 have nD:=Mv (Cx h2);have nA:=Mv (BF h2);have nB:=Mv (CQ h2);have nC:=Mv (CR h2);obtain⟨op,D,A,B,Ec,nn,bt⟩:=i;unfold rfV Ch;simp only at hb hk nD nA nB nC;obtain⟨kd,rfl⟩:∃n:Nat,D=(n:Int):=⟨D.toNat,oM⟩
 obtain⟨ka,rfl⟩:∃n:Nat,A=(n:Int):=⟨A.toNat,oM⟩
 obtain⟨kb,rfl⟩:∃n:Nat,B=(n:Int):=⟨B.toNat,oM⟩
 obtain⟨kk,rfl⟩:∃n:Nat,Ec=(n:Int):=⟨Ec.toNat,oM⟩
 have AL:0<c.regs.length->ka<c.regs.length:=fun h=>by have:=(Ex (BF h2) h).2;simp only at this;omega
 have BL:0<c.regs.length->kb<c.regs.length:=fun h=>by have:=(Ex (CQ h2) h).2;simp only at this;omega
 have CL:0<c.regs.length->kk<c.regs.length:=fun h=>by have:=(Ex (CR h2) h).2;simp only at this;omega
 have KA:∀x,(A4 op).a≠0->X[ka]? =some x->x.h=C2 c f (ka:Int):=fun x h hx=>Zd kn (r:=(ka:Int)) (LI h) oM hx;have KB:∀x,(A4 op).b≠0->X[kb]? =some x->x.h=C2 c f (kb:Int):=fun x h hx=>Zd kn (r:=(kb:Int)) (mem_b h) oM hx;have KC:∀x,(A4 op).c≠0->X[kk]? =some x->x.h=C2 c f (kk:Int):=fun x h hx=>Zd kn (r:=(kk:Int)) (mem_c h) oM hx;have MA:=fun(h:(A4 op).a≠0)=>AP (BF h2) h;have MB:=fun(h:(A4 op).b≠0)=>AP (CQ h2) h;have MC:=fun(h:(A4 op).c≠0)=>AP (CR h2) h;have DL:(A4 op).d≠0->kd<c.regs.length:=fun h=>by have:=(Ag (Cx h2) h).2;simp only at this;omega
 simp only at MA MB MC;rcases Da hk with e|e|e|e|e|e|e|e|e
 .have hop:op=1\/op=16\/op=17\/op=19\/op=20:=by unfold Dk at e;simp only[Bool.or_eq_true,beq_iff_eq]at e;omega
  rcases hop with rfl|rfl|rfl|rfl|rfl
  .have hd:(A4 1).d≠0:=dE;have dl:=DL hd;have hval:(⟨[bt],0⟩:Hd)=Dj c G P f ⟨1,(kd:Int),(ka:Int),(kb:Int),(kk:Int),nn,bt⟩:=by rw[I9 nd rF];rfl
   refine(V6 p0 p1 p2 p3 p5 p6 p7 p8 c.sign.length q0 c.regs.length q1 c.slots.length q2 c.list.length q3 c.slots.length q5 O.length q6 G.length q7 P.length q8 ct pr qr X c.regs.length hX hXl nn bt kd ka kb kk dl w hT hcs hb).mono ?_;exact Sw
  .have hd:(A4 16).d≠0:=dE;have dl:=DL hd;have al:=AL oM;have hxa:X[ka]? =some (X[ka]'oM):=gB oM;have hah:=KA _ dE hxa;have hma:=MA dE;have bl:=BL oM;have hxb:X[kb]? =some (X[kb]'oM):=gB oM;have hbh:=KB _ dE hxb;have hmb:=MB dE;have ka1:(Aa c.regs (ka:Int)).kind=1:=by simpa[B7,A4]using hma
   have kb2:(Aa c.regs (kb:Int)).kind=2:=by simpa[B7,A4]using hmb
   rw[rd_1 ka1,Int.toNat_natCast]at hah;rw[Qm kb2,Int.toNat_natCast]at hbh;have hval:(⟨[JJ (f.nums ka) (X[kb]'oM).h.whole],0⟩:Hd)=Dj c G P f ⟨16,(kd:Int),(ka:Int),(kb:Int),(kk:Int),nn,bt⟩:=by rw[I9 nd rF,hbh];rfl
   refine(Pp p0 p1 p2 p3 p5 p6 p7 p8 c.sign.length q0 c.regs.length q1 c.slots.length q2 c.list.length q3 c.slots.length q5 O.length q6 G.length q7 P.length q8 ct pr qr X c.regs.length hX hXl nn bt kd ka kb kk dl w hT hcs _ hxa _ hxb (f.nums ka) (by rw[hah]) (ok.nums ka) (by rw[hbh];exact ok.whs kb)).mono ?_;exact Sw
  .have hd:(A4 17).d≠0:=dE;have dl:=DL hd;have al:=AL oM;have hxa:X[ka]? =some (X[ka]'oM):=gB oM;have hah:=KA _ dE hxa;have hma:=MA dE;have ka2:(Aa c.regs (ka:Int)).kind=2:=by simpa[B7,A4]using hma
   rw[Qm ka2,Int.toNat_natCast]at hah;have hval:(⟨[GG (X[ka]'oM).h.whole],0⟩:Hd)=Dj c G P f ⟨17,(kd:Int),(ka:Int),(kb:Int),(kk:Int),nn,bt⟩:=by rw[I9 nd rF,hah];rfl
   refine(SV p0 p1 p2 p3 p5 p6 p7 p8 c.sign.length q0 c.regs.length q1 c.slots.length q2 c.list.length q3 c.slots.length q5 O.length q6 G.length q7 P.length q8 ct pr qr X c.regs.length hX hXl nn bt kd ka kb kk dl w hT hcs _ hxa (by rw[hah];exact ok.whs ka)).mono ?_;exact Sw
  .have hd:(A4 19).d≠0:=dE;have dl:=DL hd;have al:=AL oM;have hxa:X[ka]? =some (X[ka]'oM):=gB oM;have hah:=KA _ dE hxa;have hma:=MA dE;have ka3:(Aa c.regs (ka:Int)).kind=3:=by simpa[B7,A4]using hma
   rw[rd_3 ka3,Int.toNat_natCast]at hah;have hval:(⟨[L5 (CH (X[ka]'oM).h.pats) (X[ka]'oM).h.pats.length],0⟩:Hd)=Dj c G P f ⟨19,(kd:Int),(ka:Int),(kb:Int),(kk:Int),nn,bt⟩:=by rw[I9 nd rF,hah];rfl
   refine(V8 p0 p1 p2 p3 p5 p6 p7 p8 c.sign.length q0 c.regs.length q1 c.slots.length q2 c.list.length q3 c.slots.length q5 O.length q6 G.length q7 P.length q8 ct pr qr X c.regs.length hX hXl nn bt kd ka kb kk dl w hT hcs _ hxa (by rw[hah];exact ok.vecs ka) (by rw[hah];exact ok.vecsL ka)).mono ?_;exact Sw
  .have hd:(A4 20).d≠0:=dE;have dl:=DL hd;have al:=AL oM;have hxa:X[ka]? =some (X[ka]'oM):=gB oM;have hah:=KA _ dE hxa;have hma:=MA dE;have ka3:(Aa c.regs (ka:Int)).kind=3:=by simpa[B7,A4]using hma
   rw[rd_3 ka3,Int.toNat_natCast]at hah;have hval:(⟨[EP (CH (X[ka]'oM).h.pats) (X[ka]'oM).h.pats.length],0⟩:Hd)=Dj c G P f ⟨20,(kd:Int),(ka:Int),(kb:Int),(kk:Int),nn,bt⟩:=by rw[I9 nd rF,hah];rfl
   refine(Pn p0 p1 p2 p3 p5 p6 p7 p8 c.sign.length q0 c.regs.length q1 c.slots.length q2 c.list.length q3 c.slots.length q5 O.length q6 G.length q7 P.length q8 ct pr qr X c.regs.length hX hXl nn bt kd ka kb kk dl w hT hcs _ hxa (by rw[hah];exact ok.vecs ka) (by rw[hah];exact ok.vecsL ka)).mono ?_;exact Sw
 .have hop:op=2\/op=18\/(21<=op/\op<=28):=by unfold Bj at e;simp only[Bool.or_eq_true,Bool.and_eq_true,beq_iff_eq,decide_eq_true_eq]at e;omega
  rcases hop with rfl|rfl|⟨o1,o2⟩
  .have hd:(A4 2).d≠0:=dE;have dl:=DL hd;have hval:(⟨[],nn⟩:Hd)=Dj c G P f ⟨2,(kd:Int),(ka:Int),(kb:Int),(kk:Int),nn,bt⟩:=by rw[IJ nd rF];rfl
   refine(V9 p0 p1 p2 p3 p5 p6 p7 p8 c.sign.length q0 c.regs.length q1 c.slots.length q2 c.list.length q3 c.slots.length q5 O.length q6 G.length q7 P.length q8 ct pr qr X c.regs.length hX hXl nn bt kd ka kb kk dl w hT hcs).mono ?_;exact Sw
  .have hd:(A4 18).d≠0:=dE;have dl:=DL hd;have al:=AL oM;have hxa:X[ka]? =some (X[ka]'oM):=gB oM;have hah:=KA _ dE hxa;have hma:=MA dE;have ka1:(Aa c.regs (ka:Int)).kind=1:=by simpa[B7,A4]using hma
   rw[rd_1 ka1,Int.toNat_natCast]at hah;have hval:(⟨[],BI (f.nums ka%2147483648 != 0&&decide (f.nums ka%2147483648<=2139095040))⟩:Hd)=Dj c G P f ⟨18,(kd:Int),(ka:Int),(kb:Int),(kk:Int),nn,bt⟩:=by rw[IJ nd rF,test_eq];rfl
   refine(T3 p0 p1 p2 p3 p5 p6 p7 p8 c.sign.length q0 c.regs.length q1 c.slots.length q2 c.list.length q3 c.slots.length q5 O.length q6 G.length q7 P.length q8 ct pr qr X c.regs.length hX hXl nn bt kd ka kb kk dl w hT hcs _ hxa (f.nums ka) (by rw[hah]) (ok.nums ka)).mono ?_;exact Sw
  .have hrow:(A4 op).d=2/\(A4 op).a=2/\((A4 op).b=0\/(A4 op).b=2)/\((A4 op).c=0\/(A4 op).c=2):=by
    have:op=21\/op=22\/op=23\/op=24\/op=25\/op=26\/op=27\/op=28:=oM;rcases this with rfl|rfl|rfl|rfl|rfl|rfl|rfl|rfl<;>decide
   have hd:(A4 op).d≠0:=by rw[hrow.1];decide
   have dl:=DL hd;have ha0:(A4 op).a≠0:=by rw[hrow.2.1];decide
   have al:=AL oM;have hxa:X[ka]? =some (X[ka]'oM):=gB oM;have hah:=KA _ ha0 hxa;have hma:=MA ha0;rw[hrow.2.1]at hma;have ka2:(Aa c.regs (ka:Int)).kind=2:=by simpa[B7]using hma
   rw[Qm ka2,Int.toNat_natCast]at hah;have bl:=BL oM;have hxb:X[kb]? =some (X[kb]'oM):=gB oM;have cl:=CL oM;have hxc:X[kk]? =some (X[kk]'oM):=gB oM;have hbw:(A4 op).b≠0->(X[kb]'oM).h.whole=f.whs kb:=fun h=>by
    have h1:=MB h;rw[hrow.2.2.1.resolve_left h]at h1;rw[KB _ h hxb,Qm (by simpa[B7]using h1),Int.toNat_natCast]
   have hcw:(A4 op).c≠0->(X[kk]'oM).h.whole=f.whs kk:=fun h=>by
    have h1:=MC h;rw[hrow.2.2.2.resolve_left h]at h1;rw[KC _ h hxc,Qm (by simpa[B7]using h1),Int.toNat_natCast]
   have hwa:=(rel.xok _ (List.mem_of_getElem? hxa)).2.2;have hwb:=(rel.xok _ (List.mem_of_getElem? hxb)).2.2;have hval:(⟨[],Df op (X[ka]'oM).h.whole (X[kb]'oM).h.whole (X[kk]'oM).h.whole⟩:Hd)=Dj c G P f ⟨op,(kd:Int),(ka:Int),(kb:Int),(kk:Int),nn,bt⟩:=by rw[IJ nd e,Y4 (i:=⟨op,(kd:Int),(ka:Int),(kb:Int),(kk:Int),nn,bt⟩) (f:=f) ⟨o1,o2⟩ (by rw[hah];rfl) hbw hcw]
   refine(Ps p0 p1 p2 p3 p5 p6 p7 p8 c.sign.length q0 c.regs.length q1 c.slots.length q2 c.list.length q3 c.slots.length q5 O.length q6 G.length q7 P.length q8 ct pr qr X c.regs.length hX hXl op o1 o2 nn bt kd ka kb kk dl w hT hcs _ hxa _ hxb _ hxc hwa hwb).mono ?_;exact Sw
 .subst e;have hd:(A4 29).d≠0:=dE;have dl:=DL hd;obtain⟨par,sb,so,nm,K,len,lb,lo,tk,vb,vo,px,M,qx,e0,e1,e2,e3,e4,e5,s0,s1,s2,t0,t1,u0,hkp⟩:=Lr (T:=T) (f:=f) (i:=⟨29,(kd:Int),(ka:Int),(kb:Int),(kk:Int),nn,bt⟩) hg G fg (nd.part (.inl rfl)) _ _ _ _ _ _ _ _ _ w hv hgu;simp only[Int.toNat_natCast]at t0 t1 hkp;have hval:(⟨BJ c G ⟨29,(kd:Int),(ka:Int),(kb:Int),(kk:Int),nn,bt⟩,0⟩:Hd)=Dj c G P f ⟨29,(kd:Int),(ka:Int),(kb:Int),(kk:Int),nn,bt⟩:=by rw[val_29 nd rfl]
  refine(SW p0 p1 p2 p3 p5 p6 p7 p8 c.sign.length q0 c.regs.length q1 c.slots.length q2 c.list.length q3 c.slots.length q5 O.length q6 G.length q7 P.length q8 ct pr qr X c.regs.length hX hXl nn bt kd ka kb kk dl w hT hcs par sb so nm K len lb lo tk vb vo px M qx (BJ c G ⟨29,(kd:Int),(ka:Int),(kb:Int),(kk:Int),nn,bt⟩) e0 e1 e2 dl e3 e4 s0 s1 s2 t0 t1 u0 hXl hg.signL e5 hkp).mono ?_;exact Sw
 .subst e;have hd:(A4 30).d≠0:=dE;have dl:=DL hd;obtain⟨par,sb,so,nm,K,len,lb,lo,tk,vb,vo,px,M,qx,e0,e1,e2,e3,e4,e5,s0,s1,s2,t0,t1,u0,hkp⟩:=Lr (T:=T) (f:=f) (i:=⟨30,(kd:Int),(ka:Int),(kb:Int),(kk:Int),nn,bt⟩) hg P fp (nd.part (.inr rfl)) _ _ _ _ _ _ _ _ _ w hv hpu;simp only[Int.toNat_natCast]at t0 t1 hkp;have hval:(⟨BJ c P ⟨30,(kd:Int),(ka:Int),(kb:Int),(kk:Int),nn,bt⟩,0⟩:Hd)=Dj c G P f ⟨30,(kd:Int),(ka:Int),(kb:Int),(kk:Int),nn,bt⟩:=by rw[val_30 nd rfl]
  refine(Po p0 p1 p2 p3 p5 p6 p7 p8 c.sign.length q0 c.regs.length q1 c.slots.length q2 c.list.length q3 c.slots.length q5 O.length q6 G.length q7 P.length q8 ct pr qr X c.regs.length hX hXl nn bt kd ka kb kk dl w hT hcs par sb so nm K len lb lo tk vb vo px M qx (BJ c P ⟨30,(kd:Int),(ka:Int),(kb:Int),(kk:Int),nn,bt⟩) e0 e1 e2 dl e3 e4 s0 s1 s2 t0 t1 u0 hXl hg.signL e5 hkp).mono ?_;exact Sw
 .subst e;obtain⟨hp,hlen⟩:=nd.out rfl;obtain⟨par,hpar,hpl⟩:=MV hg hp.r0 hp.r1 hp.kind;simp only at hp hpar;have al:ka<c.regs.length:=by have:=hp.r1;omega
  have hxa:X[ka]? =some (X[ka]'oM):=gB oM;have hn0:=hp.n0;obtain⟨kq,rfl⟩:∃n:Nat,nn=(n:Int):=⟨nn.toNat,oM⟩
  obtain⟨lb,lo,e1,hl⟩:=hv.regs.at al;have hreg:c.regs[ka].par=(par:Int):=by rw[<-Ea al];exact hpar
  refine(V7 p0 p1 p2 p3 p5 p6 p7 p8 c.sign.length q0 c.regs.length q1 c.slots.length q2 c.list.length q3 c.slots.length q5 O.length q6 G.length q7 P.length q8 ct pr qr X c.regs.length hX hXl (kq:Int) bt kd ka kb kk w hT hcs _ hxa kq rfl oM par lb lo (c.regs[ka].kind) e1 al (by rw[<-hreg];exact hl.at 1 rfl) O rfl (by rw[rel.ol];have:=hg.signL;omega) (by rw[rel.ol];omega) hoo).mono ?_;rintro e w' ⟨p9,q9,rfl,hc,hbl⟩;exact⟨pr,qr,p5,q5,p9,q9,X,S,_,rfl,hcs.below hbl,hss.below hbl,hc,by rw[List.length_set],.inr (.inr (.inl ⟨rfl,rfl,rfl,_,hxa,by simp only[hpar,Int.toNat_natCast]⟩)),hbl⟩
 .subst e;have hd:(A4 32).d≠0:=dE;have dl:=DL hd;obtain⟨d0,d1,m0,m1,ht⟩:=nd.load rfl;simp only at m0 m1;obtain⟨ks,hks⟩:∃n:Nat,nn=(n:Int):=⟨nn.toNat,oM⟩
  have hksl:ks<S.length:=oM;have hxs:S[ks]? =some (S[ks]'hksl):=gB hksl;have hval:(S[ks]'hksl).h=Dj c G P f ⟨32,(kd:Int),(ka:Int),(kb:Int),(kk:Int),nn,bt⟩:=by
   rw[val_32 ok nd rfl rel.sz,<-rel.sl];simp only[hks,Int.toNat_natCast,List.getElem?_map,hxs,Option.map_some,Option.getD_some]
  refine(SZ p0 p1 p2 p3 p5 p6 p7 p8 c.sign.length q0 c.regs.length q1 c.slots.length q2 c.list.length q3 c.slots.length q5 O.length q6 G.length q7 P.length q8 ct pr qr X c.regs.length hX hXl nn bt kd ka kb kk dl w hT hcs ks hks _ S hSl hg.slotsL hss hxs).mono ?_;exact Sw
 .subst e;obtain⟨a0,a1,m0,m1,ht,hs⟩:=nd.store rfl;simp only at a0 a1 m0 m1;have al:ka<c.regs.length:=oM;have hxa:X[ka]? =some (X[ka]'oM):=gB oM;obtain⟨ks,hks⟩:∃n:Nat,nn=(n:Int):=⟨nn.toNat,oM⟩
  refine(Pq p0 p1 p2 p3 p5 p6 p7 p8 c.sign.length q0 c.regs.length q1 c.slots.length q2 c.list.length q3 c.slots.length q5 O.length q6 G.length q7 P.length q8 ct pr qr X c.regs.length hX hXl nn bt kd ka kb kk w hT hcs _ hxa ks hks S hSl hg.slotsL oM hss).mono ?_;rintro e w' ⟨p9,q9,rfl,hc,hbl⟩;exact⟨pr,qr,p9,q9,p6,q6,X,_,O,rfl,hcs.below hbl,hc,hoo.below hbl,rfl,.inr (.inl ⟨rfl,rfl,⟨_,hxa,by simp only[hks,Int.toNat_natCast]⟩,rfl⟩),hbl⟩
 .refine(T0 p0 p1 p2 p3 p5 p6 p7 p8 c.sign.length q0 c.regs.length q1 c.slots.length q2 c.list.length q3 c.slots.length q5 O.length q6 G.length q7 P.length q8 ct pr qr X c.regs.length hX hXl op e.1 e.2 nn bt kd ka kb kk w hT hcs).mono ?_;rintro e' w' ⟨rfl,hbl⟩;exact⟨pr,qr,p5,q5,p6,q6,X,S,O,rfl,hcs.below hbl,hss.below hbl,hoo.below hbl,rfl,.inr (.inr (.inr ⟨e,rfl,rfl,rfl⟩)),hbl⟩
 .have hop:3<=op/\op<=15:=by unfold Bq at e;simpa using e
  obtain⟨o1,o2⟩:=hop;have hd:(A4 op).d≠0:=by
   exact Zcw
  have ha0:(A4 op).a≠0:=by
   exact Zcw
  have dl:=DL hd;have al:=AL oM;have bl:=BL oM;have cl:=CL oM;have hxa:X[ka]? =some (X[ka]'oM):=gB oM;have hxb:X[kb]? =some (X[kb]'oM):=gB oM;have hxc:X[kk]? =some (X[kk]'oM):=gB oM;have hah:=KA _ ha0 hxa;have hty:Aa c.regs (kd:Int)=c.regs[kd]:=Ea dl;by_cases hk2:(Aa c.regs (kd:Int)).kind=2
  .have hra:(Aa c.regs (ka:Int)).kind=2:=by
    obtain⟨_,_,_,hr⟩:=nd.elem e;obtain⟨_,_,_,h⟩:=hr (ka:Int) (LI ha0);rcases h with h|⟨_,h⟩
    .rw[h];exact hk2
    .simp only at h;omega
   have hval:(X[ka]'oM).h=Dj c G P f ⟨op,(kd:Int),(ka:Int),(kb:Int),(kk:Int),nn,bt⟩:=by
    rw[Uv e hk2,hah,Qm hra]
   refine(QZ p0 p1 p2 p3 p5 p6 p7 p8 c.sign.length q0 c.regs.length q1 c.slots.length q2 c.list.length q3 c.slots.length q5 O.length q6 G.length q7 P.length q8 ct pr qr X c.regs.length hX hXl op o1 o2 nn bt kd ka kb kk dl w hT hcs (X[ka]'oM).h (fun v hbv hsv=>?_)).mono ?_
   .refine(Je c hg _ _ _ _ _ _ _ _ _ _ X hX op nn bt _ _ kd ka dl oM (by rw[<-hty];exact hk2) v (hv.below hbv) (hcs.cs.below hbv)).mono ?_;rintro e' w' ⟨rfl,-,hbl⟩;exact⟨X[ka]'oM,rfl,rfl,(Nj (hcs.nums _ (List.mem_of_getElem? hxa)) hbv).below hbl,hbl⟩
   .exact Sw
  .obtain⟨w1,w2,w3⟩:=Gi hg ok e nd hk2;have hargs:=Yx (i:=⟨op,(kd:Int),(ka:Int),(kb:Int),(kk:Int),nn,bt⟩) (c:=c) (f:=f) e hah (fun h=>KB _ h hxb) (fun h=>KC _ h hxc);have htr:=Gf ⟨op,(kd:Int),(ka:Int),(kb:Int),(kk:Int),nn,bt⟩ e;have hal:(Br c f ⟨op,(kd:Int),(ka:Int),(kb:Int),(kk:Int),nn,bt⟩).length=CD op:=by unfold Br;rw[List.length_map];exact htr.1.symm
   obtain⟨n,hn,hn2⟩:=LF (l:=lF (Br c f ⟨op,(kd:Int),(ka:Int),(kb:Int),(kk:Int),nn,bt⟩)) w1 ((Br c f ⟨op,(kd:Int),(ka:Int),(kb:Int),(kk:Int),nn,bt⟩).length-1) (fun k hk=>by
    have htn:=htr.2;simp only at htn;unfold lF;rw[Ia oM];unfold Br;rw[List.getElem_map]
    exact(w2 _ (gD _)).2.2.1)
   have hwd:=hg.width (Aa c.regs (kd:Int));simp only at w1 hn2;have hval:(⟨UF (if(Aa c.regs (kd:Int)).kind=3 then lenOf c (Aa c.regs (kd:Int)).par else 1) (D4 op (Br c f ⟨op,(kd:Int),(ka:Int),(kb:Int),(kk:Int),nn,bt⟩)),0⟩:Hd)=Dj c G P f ⟨op,(kd:Int),(ka:Int),(kb:Int),(kk:Int),nn,bt⟩:=by
    rw[Y3 hg ok nd e hk2]
   refine(QZ p0 p1 p2 p3 p5 p6 p7 p8 c.sign.length q0 c.regs.length q1 c.slots.length q2 c.list.length q3 c.slots.length q5 O.length q6 G.length q7 P.length q8 ct pr qr X c.regs.length hX hXl op o1 o2 nn bt kd ka kb kk dl w hT hcs ⟨UF (if(Aa c.regs (kd:Int)).kind=3 then lenOf c (Aa c.regs (kd:Int)).par else 1) (D4 op (Br c f ⟨op,(kd:Int),(ka:Int),(kb:Int),(kk:Int),nn,bt⟩)),0⟩ (fun v hbv hsv=>?_)).mono ?_
   .rw[hal,<-hargs]at hn;have K:=Lj c hg (.slice p0 c.sign.length q0) (.slice p1 c.regs.length q1) (.slice p2 c.slots.length q2) (.slice p3 c.list.length q3) (.slice pr c.regs.length qr) (.slice p5 c.slots.length q5) (.slice p6 O.length q6) (.slice p7 G.length q7) (.slice p8 P.length q8) (.int .i64 ct) X hX op nn bt kd ka kb kk dl oM oM oM (by rw[<-hty];exact hk2) (fun h=>hg.type (gD dl) h) (CD op) rfl htr.2 n hn oM oM (fun x hx=>(rel.xok x hx).1) (fun x hx=>(rel.xok x hx).2.1) v (hv.below hbv) (hcs.cs.below hbv);simp only at hargs;rw[hargs,<-hty]at K;refine K.mono ?_;rintro e' w' ⟨pe,qe,rfl,hne,hbl,hle⟩;exact⟨⟨pe,qe,⟨_,0⟩⟩,rfl,rfl,C6.free (B:=v.heap.size) hne hle (fun b hb=>Dl hT hb hsv),hbl⟩
   .exact Sw
def ZOk(c:Cd)(l:List Hd):Prop:=∀j (h:j<c.slots.length),c.slots[j].ty.kind≠2->((l[j]?).getD ⟨[],0⟩).whole=0
structure Ib(c:Cd)(l:List Hd):Prop where
 len:l.length=c.slots.length
 ok:∀j (h:j<c.slots.length) (h':j<l.length),P6 c c.slots[j].ty l[j]
 z:ZOk c l
theorem QV{c:Cd}(hg:Good c){s:Sl}(hs:s∈c.slots)(h2:s.ty.kind≠2):(Bf c s).whole=0:=by
 have h1:=hg.slots s hs;unfold Be EN at h1;rw[if_neg h2]at h1;simp only[Bool.and_eq_true,beq_iff_eq]at h1;exact h1.2.1
theorem start_z{c:Cd}(hg:Good c):ZOk c (BE c):=fun j h h2=>by
 rw[BE,List.getElem?_map,gB h,Option.map_some,Option.getD_some];exact QV hg (gD h) h2
theorem UR(c:Cd)(l:List Hd)(hl:l.length=c.slots.length):∀ (j:Nat),j<=c.slots.length->∀k (h:k<c.slots.length),(Ye c l j)[k]? =if k<j/\c.slots[k].keep=false then some (Bf c c.slots[k])else l[k]?
 |0,_,k,h=>by simp[Ye]
 |j+1,hj,k,h=>by
  have ih:=UR c l hl j oM;unfold Ye;rw[gB (show j<c.slots.length by omega)];simp only;cases hkp:c.slots[j].keep with
  |true=>
   simp only[if_true];rw[ih k h];by_cases e:k=j
   .subst e;rw[hkp];simp
   .have:k<j+1↔k<j:=oM;simp only[this]
  |false=>
   simp only[Bool.false_eq_true,if_false];by_cases e:k=j
   .subst e;rw[List.getElem?_set_self (by rw[GZ,hl];exact h),if_pos ⟨oM,hkp⟩]
   .rw[List.getElem?_set_ne (fun q=>e q.symm),ih k h];have:k<j+1↔k<j:=oM;simp only[this]
def No(c:Cd)(l:List Hd):List Hd:=Ye c l c.slots.length
theorem Es{c:Cd}{l:List Hd}(hl:l.length=c.slots.length):(No c l).length=c.slots.length:=by unfold No;rw[GZ,hl]
theorem Jw{c:Cd}{l:List Hd}(hl:l.length=c.slots.length){k:Nat}(h:k<c.slots.length)(h':k<(No c l).length):(No c l)[k]=if c.slots[k].keep then l[k]'oM else Bf c c.slots[k]:=by
 have h1:=UR c l hl c.slots.length (gF _) k h;have h2:(No c l)[k]? =some ((No c l)[k]):=gB h';unfold No at h2 |-;rw[h2]at h1;cases hkp:c.slots[k].keep with
 |true=>
  rw[hkp,if_neg sM,gB oM]at h1;simp only[Option.some.injEq]at h1;simp only[if_true];exact h1
 |false=>
  rw[if_pos ⟨h,hkp⟩]at h1;simp only[Option.some.injEq]at h1;simp only[Bool.false_eq_true,if_false];exact h1
def f4v(a b c d:Value)(k:Nat):Value:=if k=0 then a else if k=1 then b else if k=2 then c else d
theorem f4v_ok(a b c d:Value):∀k,k<(#[a,b,c,d]:Array Value).size->(#[a,b,c,d]:Array Value)[k]? =some (f4v a b c d k):=by
 intro k hk;have hk':k<4:=hk;obtain rfl|rfl|rfl|rfl:k=0\/k=1\/k=2\/k=3:=oM
 all_goals rfl
structure SB(w:World)(a0 a1 a2 a3 a4:Value)(v:World):Prop where
 bel:Below w.heap.size w v
 r:v.rowIs w.heap.size 43 5 (f5 a0 a1 a2 a3 a4)
 q:v.rowIs (w.heap.size+1) 43 5 (f5 (.slice none 0 0) (.slice none 0 0) (.slice none 0 0) (.slice none 0 0) (.slice none 0 0))
 c:v.rowIs (w.heap.size+1+1) 27 4 (f4v a0 a1 a2 a3)
theorem SB.next{w:World}{a0 a1 a2 a3 a4:Value}{v v':World}(h:SB w a0 a1 a2 a3 a4 v)(k:Below v.heap.size v v'):SB w a0 a1 a2 a3 a4 v':=
 ⟨Go.Proofs.YtnbccaicijcklaaGreat.bel h.bel k,h.r.of_block (k.block _ h.r.lt),h.q.of_block (k.block _ h.q.lt),h.c.of_block (k.block _ h.c.lt)⟩
theorem SB.start(w:World)(a0 a1 a2 a3 a4:Value):SB w a0 a1 a2 a3 a4 (((w.alloc (.cells #[a0,a1,a2,a3,a4] 43)).alloc (.cells #[.slice none 0 0,.slice none 0 0,.slice none 0 0,.slice none 0 0,.slice none 0 0] 43)).alloc (.cells #[a0,a1,a2,a3] 27)):=by
 have r1:=World.rowIs_alloc w #[a0,a1,a2,a3,a4] 43 _ (FE _ _ _ _ _);have r2:=World.rowIs_alloc (w.alloc (.cells #[a0,a1,a2,a3,a4] 43)) #[.slice none 0 0,.slice none 0 0,.slice none 0 0,.slice none 0 0,.slice none 0 0] 43 _ (FE _ _ _ _ _);have r3:=World.rowIs_alloc ((w.alloc (.cells #[a0,a1,a2,a3,a4] 43)).alloc (.cells #[.slice none 0 0,.slice none 0 0,.slice none 0 0,.slice none 0 0,.slice none 0 0] 43)) #[a0,a1,a2,a3] 27 _ (f4v_ok _ _ _ _);simp only[World.size_alloc]at r2 r3;exact⟨Go.Proofs.YtnbccaicijcklaaGreat.bel (A0 _ _) (Go.Proofs.YtnbccaicijcklaaGreat.bel (A0 _ _) (A0 _ _)),(r1.alloc _).alloc _,r2.alloc _,r3⟩
theorem SB.size{w:World}{a0 a1 a2 a3 a4:Value}{v:World}(h:SB w a0 a1 a2 a3 a4 v):w.heap.size+1+1<v.heap.size:=h.c.lt
structure Jv(w:World)(a0 a1 a2 a3 a4:Value)(FB:Nat)(F:Nat->Value)(v:World):Prop where
 b:SB w a0 a1 a2 a3 a4 v
 f:v.rowIs FB 110 10 F
 hF:w.heap.size+1+1<FB
theorem Jv.next{w:World}{a0 a1 a2 a3 a4:Value}{FB:Nat}{F:Nat->Value}{v v':World}(h:Jv w a0 a1 a2 a3 a4 FB F v)(k:Below v.heap.size v v'):Jv w a0 a1 a2 a3 a4 FB F v':=⟨h.b.next k,h.f.of_block (k.block _ h.f.lt),h.hF⟩
theorem Jv.below{w:World}{a0 a1 a2 a3 a4:Value}{FB B:Nat}{F:Nat->Value}{v v':World}(h:Jv w a0 a1 a2 a3 a4 FB F v)(k:Below B v v')(hB:FB<B):Jv w a0 a1 a2 a3 a4 FB F v':=by
 have hF:=h.hF;have hs:=h.b.bel.size;have hlt:=h.f.lt;refine⟨⟨⟨k.os.trans h.b.bel.os,k.tape.trans h.b.bel.tape,k.output.trans h.b.bel.output,gH hs k.size,fun x hx=>(k.block x oM).trans (h.b.bel.block x hx)⟩,h.b.r.of_block (k.block _ oM),h.b.q.of_block (k.block _ oM),h.b.c.of_block (k.block _ oM)⟩,h.f.of_block (k.block _ hB),h.hF⟩
theorem Jv.put{w:World}{a0 a1 a2 a3 a4:Value}{FB:Nat}{F:Nat->Value}{v:World}(h:Jv w a0 a1 a2 a3 a4 FB F v)(i:Nat)(x:Value):Jv w a0 a1 a2 a3 a4 FB (fun j=>if j=i then x else F j) (v.setCell ⟨FB,i,none⟩ x):=by
 have hF:=h.hF;exact⟨⟨h.b.bel.setCell (by show w.heap.size<=FB;omega) _,h.b.r.setOther (by show w.heap.size≠FB;omega) _,h.b.q.setOther (by show w.heap.size+1≠FB;omega) _,h.b.c.setOther (by show w.heap.size+1+1≠FB;omega) _⟩,h.f.set i x,h.hF⟩
theorem Jv.congr{w:World}{a0 a1 a2 a3 a4:Value}{FB:Nat}{F F':Nat->Value}{v:World}(h:Jv w a0 a1 a2 a3 a4 FB F v)(k:∀j,j<10->F j=F' j):Jv w a0 a1 a2 a3 a4 FB F' v:=⟨h.b,h.f.congr k,h.hF⟩
theorem E4{P:Nat->Prop}(h0:P 0)(h1:P 1)(h2:P 2)(h3:P 3)(h4:P 4)(h5:P 5)(h6:P 6)(h7:P 7)(h8:P 8)(h9:P 9):∀j,j<10->P j:=by
 intro j hj;obtain rfl|rfl|rfl|rfl|rfl|rfl|rfl|rfl|rfl|rfl:j=0\/j=1\/j=2\/j=3\/j=4\/j=5\/j=6\/j=7\/j=8\/j=9:=oM
 all_goals assumption
theorem Jv.putT{w:World}{a0 a1 a2 a3 a4:Value}{FB:Nat}{F:Nat->Value}{v:World}(h:Jv w a0 a1 a2 a3 a4 FB F v)(b0 b1 b2 b3 b4 b5 b6 b7 b8 b9:Value):Jv w a0 a1 a2 a3 a4 FB (D5 b0 b1 b2 b3 b4 b5 b6 b7 b8 b9) (Na v FB b0 b1 b2 b3 b4 b5 b6 b7 b8 b9):=
 ((((((((((h.put 0 b0).put 1 b1).put 2 b2).put 3 b3).put 4 b4).put 5 b5).put 6 b6).put 7 b7).put 8 b8).put 9 b9).congr (E4 rfl rfl rfl rfl rfl rfl rfl rfl rfl rfl)
def T4(w:World)(T:Nat->Prop)(FB:Nat)(b:Nat):Prop:=T b\/(w.heap.size<=b/\b<=w.heap.size+1+1)\/b=FB
theorem Mk{w:World}{T:Nat->Prop}{FB:Nat}(hT:∀b,T b->b<w.heap.size)(hF:w.heap.size+1+1<FB){B:Nat}(hB:FB<B){b:Nat}(h:T4 w T FB b):b<B:=by
 rcases h with h|h|h
 .have:=hT b h;omega
 .omega
 .omega
theorem t4_old{w:World}{T:Nat->Prop}{FB b:Nat}(hF:w.heap.size+1+1<FB)(hb:b<w.heap.size)(h:T4 w T FB b):T b:=by
 rcases h with h|h|h
 .exact h
 .omega
 .omega
theorem Tq(m:Nat)(h:m<=16384)(w:World):(Instr.makeSlice 41 (.int .i64 m) (.int .i64 m)).run prog w=.ok (.slice (some ⟨w.heap.size,0,none⟩) m m) (w.alloc (.cells (madeCells #[.slice none 0 0,.int .i64 0] (m*2)) 74)):=by
 obtain⟨i,hi,hz,hs,hb⟩:=info_parts Ii;have hr:=run_make (P:=prog) w 41 74 i _ underlying41 hi hz .i64 .i64 m m oM (Int.le_refl _) (by rw[hb];omega) oM;rw[hs,show(Value.agg #[.slice none 0 0,.int .i64 0]).cells=#[.slice none 0 0,.int .i64 0]from rfl]at hr;simpa using hr
theorem To(m i:Nat)(hi:i<m*2):(madeCells #[.slice none 0 0,.int .i64 0] (m*2))[i]? =some (f2 (.slice none 0 0) (.int .i64 0) (i%2)):=by
 unfold madeCells;rw[Array.getElem?_map,Array.getElem?_range];simp[hi];have h2:i%2=0\/i%2=1:=oM;rcases h2 with h|h<;>rw[h]<;>rfl
def Ss(n:Nat):List Cl:=List.replicate n ⟨none,0,⟨[],0⟩⟩
theorem QX{T:Nat->Prop}{v:World}{RB m:Nat}(h:v.heap[RB]? =some (.cells (madeCells #[.slice none 0 0,.int .i64 0] (m*2)) 74 (0,0)))(hT:¬T RB):AT T v (.slice (some ⟨RB,0,none⟩) m m) (Ss m):=by
 have hlt:RB<v.heap.size:=by
  rcases Nat.lt_or_ge RB v.heap.size with h1|h1
  .exact h1
  .rw[Array.getElem?_eq_none h1]at h;cases h
 refine⟨⟨_,m,by rw[Ss,List.length_replicate],.inr ⟨RB,0,rfl,hT,hlt,fun i hi j hj=>?_⟩⟩,fun x hx=>?_⟩
 .rw[Ss,List.length_replicate]at hi;have hj2:j<2:=hj;have hc:v.cell? ⟨RB,0+i*2+j,none⟩=some (f2 (.slice none 0 0) (.int .i64 0) ((0+i*2+j)%2)):=by
   unfold World.cell?;simp only[h];exact To m _ oM
  rw[hc];simp only[Ss,List.getElem_replicate];obtain rfl|rfl:j=0\/j=1:=oM
  .rw[show(0+i*2+0)%2=0 by omega];rfl
  .rw[show(0+i*2+1)%2=1 by omega];rfl
 .rw[Ss]at hx;rw[List.eq_of_mem_replicate hx];exact .inl rfl
theorem W8{B:Nat}{V:World}{e t:TypeId}{z:Value}{sz by':Nat}(ht:prog.underlying t=some (.slice e))(hi:(prog.info? e).map (fun i=>(i.zero,i.size,i.bytes))=some (some z,sz,by'))(hzs:z.cells.size=sz)(hsz:0<sz){p:Option Addr}{n q m:Nat}{xs:List Value}(h:V.ownsRow B e sz (.slice p n q) n xs)(hB:B<=V.heap.size)
 (cs:Array Value) (hm:0<m) (hcs:cs.size=m*sz) (h1:∀u∈cs.toList,u.oneCell'=true) (hn:n+m<=maxLen) (hb:(n+m)*by'<=140737488355328) (ty:TypeId):
 ∃g c' w',(Builtin.append_ #[t,t] ty #[.slice p n q,.slice (some ⟨V.heap.size,0,none⟩) m m]).run prog (V.alloc (.cells cs e))=.ok (.slice (some ⟨g,0,none⟩) (n+m) c') w'/\Below B V w'/\w'.ownsRow B e sz (.slice (some ⟨g,0,none⟩) (n+m) c') (n+m) (xs++cs.toList)/\(∀b,b<V.heap.size->(Value.slice p n q).ownBlock≠some b->w'.heap[b]? =V.heap[b]?)/\((Value.slice p n q).ownBlock=some g\/V.heap.size<g):=by
 obtain⟨i0,hi0,hz0,hz1,hz2⟩:=info_parts hi;have hb0:Below V.heap.size V (V.alloc (.cells cs e)):=A0 _ _;have hs:(V.alloc (.cells cs e)).heap.size=V.heap.size+1:=sM;have h0:=Ak h hb0;obtain⟨g,cap,w3,hr,hown,hgrow,hat,hlt⟩:=run_append_lies (P:=prog) (V.alloc (.cells cs e)) t ty B e i0 _ sz by' ht hi0 hz0 hz1 hz2 hzs hsz (.slice p n q) n xs h0 ⟨V.heap.size,0,none⟩ m m cs.toList (by simp[hcs])
  (World.news_of_block (cs:=cs) (t:=e) (fr:=(0,0)) (heap_alloc_new V _)) h1 hm hn hb oM _ rfl
 exact Zea
theorem sp_A{T:Nat->Prop}{w:World}{a0 a1 a2 a3 a4:Value}{v:World}{m:Nat}(h:SB w a0 a1 a2 a3 a4 v)(hT:∀b,T b->b<w.heap.size)(b0 b1 b2 b3 b5 b6 b7 b8 b9:Value):
 Jv w a0 a1 a2 a3 a4 (v.heap.size+1) (D5 b0 b1 b2 b3 (.slice (some ⟨v.heap.size,0,none⟩) m m) b5 b6 b7 b8 b9) ((v.alloc (.cells (madeCells #[.slice none 0 0,.int .i64 0] (m*2)) 74)).alloc (.cells #[b0,b1,b2,b3,.slice (some ⟨v.heap.size,0,none⟩) m m,b5,b6,b7,b8,b9] 110))/\AT (T4 w T (v.heap.size+1)) ((v.alloc (.cells (madeCells #[.slice none 0 0,.int .i64 0] (m*2)) 74)).alloc (.cells #[b0,b1,b2,b3,.slice (some ⟨v.heap.size,0,none⟩) m m,b5,b6,b7,b8,b9] 110)) (.slice (some ⟨v.heap.size,0,none⟩) m m) (Ss m):=by
 have hsz:=h.size;have r1:=World.rowIs_alloc (v.alloc (.cells (madeCells #[.slice none 0 0,.int .i64 0] (m*2)) 74)) #[b0,b1,b2,b3,.slice (some ⟨v.heap.size,0,none⟩) m m,b5,b6,b7,b8,b9] 110 _ (Mu _ _ _ _ _ _ _ _ _ _);simp only[World.size_alloc]at r1;refine⟨⟨h.next (bel (A0 _ _) (A0 _ _)),r1,oM⟩,QX ?_ ?_⟩
 .rw[(A0 (v.alloc (.cells (madeCells #[.slice none 0 0,.int .i64 0] (m*2)) 74)) _).block _ sM];exact heap_alloc_new v _
 .rintro(k|k|k)
  .have:=hT _ k;omega
  .omega
  .omega
theorem sp_B{T:Nat->Prop}{w:World}{a0 a1 a2 a3 a4:Value}{v:World}{m:Nat}(h:SB w a0 a1 a2 a3 a4 v)(hT:∀b,T b->b<w.heap.size)(b0 b1 b2 b3 b5 b6 b7 b8 b9:Value):
 Jv w a0 a1 a2 a3 a4 v.heap.size (D5 b0 b1 b2 b3 (.slice (some ⟨v.heap.size+1,0,none⟩) m m) b5 b6 b7 b8 b9) ((v.alloc (.cells #[b0,b1,b2,b3,.slice (some ⟨v.heap.size+1,0,none⟩) m m,b5,b6,b7,b8,b9] 110)).alloc (.cells (madeCells #[.slice none 0 0,.int .i64 0] (m*2)) 74))/\AT (T4 w T v.heap.size) ((v.alloc (.cells #[b0,b1,b2,b3,.slice (some ⟨v.heap.size+1,0,none⟩) m m,b5,b6,b7,b8,b9] 110)).alloc (.cells (madeCells #[.slice none 0 0,.int .i64 0] (m*2)) 74)) (.slice (some ⟨v.heap.size+1,0,none⟩) m m) (Ss m):=by
 have hsz:=h.size;have r1:=World.rowIs_alloc v #[b0,b1,b2,b3,.slice (some ⟨v.heap.size+1,0,none⟩) m m,b5,b6,b7,b8,b9] 110 _ (Mu _ _ _ _ _ _ _ _ _ _);refine⟨⟨h.next (bel (A0 _ _) (A0 _ _)),r1.alloc _,oM⟩,QX ?_ ?_⟩
 .have h1:=heap_alloc_new (v.alloc (.cells #[b0,b1,b2,b3,.slice (some ⟨v.heap.size+1,0,none⟩) m m,b5,b6,b7,b8,b9] 110)) (.cells (madeCells #[.slice none 0 0,.int .i64 0] (m*2)) 74);simp only[World.size_alloc]at h1;exact h1
 .rintro(k|k|k)
  .have:=hT _ k;omega
  .omega
  .omega
structure L1(T:Nat->Prop)(w:World)(a0 a1 a2 a3 a4:Value)(FB E:Nat)(F:Nat->Value)(v:World)(sv:Value)(Y:List Cl):Prop where
 sp:Jv w a0 a1 a2 a3 a4 FB F v
 be:E<=v.heap.size
 cs:Jt E v sv Y
 loc:∀x∈Y,∀b o s,x.p=some ⟨b,o,s⟩->x.h.pats≠[]->¬T4 w T FB b
theorem L1.next{T:Nat->Prop}{w:World}{a0 a1 a2 a3 a4:Value}{FB E:Nat}{F:Nat->Value}{v v':World}{sv:Value}{Y:List Cl}(h:L1 T w a0 a1 a2 a3 a4 FB E F v sv Y)(k:Below v.heap.size v v'):L1 T w a0 a1 a2 a3 a4 FB E F v' sv Y:=⟨h.sp.next k,gH h.be k.size,h.cs.below k,h.loc⟩
theorem L1.put{T:Nat->Prop}{w:World}{a0 a1 a2 a3 a4:Value}{FB E:Nat}{F:Nat->Value}{v v':World}{sv:Value}{Y:List Cl}(h:L1 T w a0 a1 a2 a3 a4 FB E F v sv Y)(hFE:FB<E)(k:Below E v v'){g n c':Nat}{Y':List Cl}(hc:Jt E v' (.slice (some ⟨g,0,none⟩) n c') Y')(hloc:∀x∈Y',∀b o s,x.p=some ⟨b,o,s⟩->x.h.pats≠[]->¬T4 w T FB b):
 v'.cell? ⟨FB,5,none⟩=some (F 5)/\v'.frozen? ⟨FB,5,none⟩=false/\L1 T w a0 a1 a2 a3 a4 FB E (fun j=>if j=5 then .slice (some ⟨g,0,none⟩) n c' else F j) (v'.setCell ⟨FB,5,none⟩ (.slice (some ⟨g,0,none⟩) n c')) (.slice (some ⟨g,0,none⟩) n c') Y':=by
 have hs:=h.sp.below k hFE;have ho:∀b,b≠FB->(v'.setCell ⟨FB,5,none⟩ (.slice (some ⟨g,0,none⟩) n c')).heap[b]? =v'.heap[b]? :=fun b hne=>gE hne;refine⟨hs.f.cell (i:=5) dE,hs.f.frozen 5,hs.put 5 _,?_,⟨Ac hc.own (fun b hbb=>ho b Zhp),fun x hx=>?_⟩,hloc⟩
 .have h1:=h.be;have h2:=k.size;simp only[World.size_setCell];omega
 .exact Zdi
structure Su(B:Nat)(v:World)(sv:Value)(X:List Cl):Prop where
 own:v.ownsRow B 72 1 sv X.length (Au UH X)
 nums:∀x∈X,GY v sv x.p x.h.pats
theorem Su.below{B:Nat}{v v':World}{sv:Value}{X:List Cl}(h:Su B v sv X)(k:Below v.heap.size v v'):Su B v' sv X:=⟨Ak h.own k,fun x hx=>(h.nums x hx).below k⟩
theorem Su.nil(B:Nat)(v:World):Su B v (.slice none 0 0) []:=⟨World.ownsRow_nil _ _ _ 1,fun x hx=>by cases hx⟩
theorem Su.push{B:Nat}{V:World}{p:Option Addr}{q:Nat}{X:List Cl}(h:Su B V (.slice p X.length q) X)(hB:B<=V.heap.size)(hX:X.length<=16384)(x:Cl)(hx:GY V (.slice p X.length q) x.p x.h.pats)(ty:TypeId):
 ∃g c' w',(Builtin.append_ #[88,88] ty #[.slice p X.length q,.slice (some ⟨V.heap.size,0,none⟩) 2 2]).run prog (V.alloc (.cells #[.slice x.p x.h.pats.length x.q,.slice x.p x.h.pats.length x.q] 72))=.ok (.slice (some ⟨g,0,none⟩) (X.length+2) c') w'/\Below B V w'/\Su B w' (.slice (some ⟨g,0,none⟩) (X.length+2) c') (X++[x,x]):=by
 obtain⟨g,c',w',hr,hb,ho,hk,hg⟩:=W8 (V:=V) (m:=2) underlying88 LD rfl dE h.own hB #[.slice x.p x.h.pats.length x.q,.slice x.p x.h.pats.length x.q] dE rfl (fun u hu=>by simp at hu;subst hu;rfl) mL oM ty;refine⟨g,c',w',hr,hb,⟨?_,fun y hy=>?_⟩⟩
 .rw[List.length_append,FS];exact ho
 .rcases List.mem_append.1 hy with e|e
  .exact(h.nums y e).grow hk hg
  .simp only[List.mem_cons,List.not_mem_nil,or_false,or_self]at e;subst e;exact hx.grow hk hg
structure L2(T:Nat->Prop)(w:World)(a0 a1 a2 a3 a4:Value)(FB E:Nat)(F:Nat->Value)(v:World)(sv:Value)(Y:List Cl):Prop where
 sp:Jv w a0 a1 a2 a3 a4 FB F v
 be:E<=v.heap.size
 cs:Su E v sv Y
 loc:∀x∈Y,∀b o s,x.p=some ⟨b,o,s⟩->x.h.pats≠[]->¬T4 w T FB b
theorem L2.next{T:Nat->Prop}{w:World}{a0 a1 a2 a3 a4:Value}{FB E:Nat}{F:Nat->Value}{v v':World}{sv:Value}{Y:List Cl}(h:L2 T w a0 a1 a2 a3 a4 FB E F v sv Y)(k:Below v.heap.size v v'):L2 T w a0 a1 a2 a3 a4 FB E F v' sv Y:=⟨h.sp.next k,gH h.be k.size,h.cs.below k,h.loc⟩
theorem L2.put{T:Nat->Prop}{w:World}{a0 a1 a2 a3 a4:Value}{FB E:Nat}{F:Nat->Value}{v v':World}{sv:Value}{Y:List Cl}(h:L2 T w a0 a1 a2 a3 a4 FB E F v sv Y)(hFE:FB<E)(k:Below E v v'){g n c':Nat}{Y':List Cl}(hc:Su E v' (.slice (some ⟨g,0,none⟩) n c') Y')(hloc:∀x∈Y',∀b o s,x.p=some ⟨b,o,s⟩->x.h.pats≠[]->¬T4 w T FB b):
 v'.cell? ⟨FB,6,none⟩=some (F 6)/\v'.frozen? ⟨FB,6,none⟩=false/\L2 T w a0 a1 a2 a3 a4 FB E (fun j=>if j=6 then .slice (some ⟨g,0,none⟩) n c' else F j) (v'.setCell ⟨FB,6,none⟩ (.slice (some ⟨g,0,none⟩) n c')) (.slice (some ⟨g,0,none⟩) n c') Y':=by
 have hs:=h.sp.below k hFE;have ho:∀b,b≠FB->(v'.setCell ⟨FB,6,none⟩ (.slice (some ⟨g,0,none⟩) n c')).heap[b]? =v'.heap[b]? :=fun b hne=>gE hne;refine⟨hs.f.cell (i:=6) dE,hs.f.frozen 6,hs.put 6 _,?_,⟨Ac hc.own (fun b hbb=>ho b Zhp),fun x hx=>?_⟩,hloc⟩
 .have h1:=h.be;have h2:=k.size;simp only[World.size_setCell];omega
 .exact Zdi
theorem ZG{T:Nat->Prop}{E:Nat}{v:World}{sv:Value}{Y:List Cl}(h:Su E v sv Y)(hT:∀b,T b->b<E)(hl:∀x∈Y,∀b o s,x.p=some ⟨b,o,s⟩->x.h.pats≠[]->¬T b):Ie T v sv Y:=by
 refine⟨Hl Jp h.own hT,fun x hx=>?_⟩;exact Zef
def MR(c:Cd)(j:Nat):List Hd:=(List.range (2*j)).map fun i=>⟨List.replicate (lenOf c ((i/2:Nat):Int)) 0,0⟩
theorem Tv(c:Cd)(j:Nat):MR c (j+1)=MR c j++[⟨List.replicate (lenOf c (j:Int)) 0,0⟩,⟨List.replicate (lenOf c (j:Int)) 0,0⟩]:=by
 unfold MR;rw[show 2*(j+1)=2*j+1+1 by omega,Ek,Ek,List.append_assoc,show 2*j/2=j by omega,show(2*j+1)/2=j by omega];rfl
theorem TL{c:Cd}{l:List Hd}{Y O:List Cl}(hg:Good c)(hso:Ib c l)(hY:Y.map (·.h)=No c l)(hO:O.map (·.h)=MR c c.sign.length):P9 c (BY c l) (Ss c.regs.length) Y O:=by
 have hol:O.length=2*c.sign.length:=by have h1:=congrArg List.length hO;rw[List.length_map,MR,List.length_map,List.length_range]at h1;exact h1
 refine⟨by rw[Ss,List.length_replicate],fun x hx=>?_,hY,fun j h h2=>?_,hol,fun p n hp hn=>?_⟩
 .rw[Ss]at hx;rw[List.eq_of_mem_replicate hx];exact⟨fun y hy=>(by cases hy),gI _,Int.le_refl _,by show(0:Int)<=2147483647;decide⟩
 .show(((No c l)[j]?).getD ⟨[],0⟩).whole=0;have hjl:j<(No c l).length:=by rw[Es hso.len];exact h
  rw[gB hjl,Option.getD_some,Jw hso.len h hjl];split
  .have h3:=hso.z j h h2;rw[gB (by rw[hso.len];exact h),Option.getD_some]at h3;exact h3
  .exact QV hg (gD h) h2
 .have hn2:n<2:=by unfold AI at hn;split at hn<;>omega
  have hil:2*p+n<O.length:=by rw[hol];omega
  have hoh:(O[2*p+n]).h=⟨List.replicate (lenOf c (p:Int)) 0,0⟩:=by
   have h5:(O.map (·.h))[2*p+n]? =some (O[2*p+n]).h:=by rw[List.getElem?_map,gB hil];rfl
   rw[hO,MR,List.getElem?_map,List.getElem?_range oM]at h5;simp only[Option.map_some,Option.some.injEq]at h5;rw[<-h5,show(2*p+n)/2=p by omega]
  refine⟨O[2*p+n],gB hil,by rw[hoh];simp,fun y hy=>?_,fun e he=>?_⟩
  .rw[hoh]at hy;simp only at hy;rw[List.eq_of_mem_replicate hy];exact JM
  .rw[hoh];show CH (List.replicate (lenOf c (p:Int)) 0) e=0;rw[Ji _ _ he]
theorem VS{c:Cd}{l:List Hd}(hg:Good c)(hk:Ba c)(hso:Ib c l):KK c (BY c l):=by
 refine⟨fun _=>JM,fun _=>⟨Int.le_refl _,by show(0:Int)<=2147483647;decide⟩,fun _ y hy=>(by cases hy),fun _=>gI _,Es hso.len,fun j h h'=>?_⟩;have h3:j<(No c l).length:=h';show P6 c c.slots[j].ty ((No c l)[j]'h3);rw[Jw hso.len h h3];split
 .exact hso.ok j h (by rw[hso.len];exact h)
 .exact Nw hg (gD h) (hk.sbits _ (gD h))
theorem Qw{c:Cd}(hg:Good c){i:Ad}{s:Wk}(t:AG c s i=true)(v0 v1 v2 v3:Value)(w:World)(hv:CE w v0 v1 v2 v3 c):
 Calls prog 42 #[.agg #[v0,v1,v2,v3],.agg #[.int .i64 i.op,.int .i64 i.d,.int .i64 i.a,.int .i64 i.b,.int .i64 i.c,.int .i64 i.n,.int .u32 i.bits]] w fun e w'=>(∃n:Nat,n<=4096/\e=.returned (.int .i64 (n:Int)))/\Below w.heap.size w w':=by
 obtain⟨hk,h2,_,_⟩:=Ao t;obtain⟨op,D,A,B,Ec,nn,bt⟩:=i;simp only at hk |-;have hk':=hk;unfold Al at hk';simp only[Bool.and_eq_true,decide_eq_true_eq]at hk';by_cases h1:(3<=op/\op<=15)\/op=29\/op=30\/op=32
 .have hd:(A4 op).d≠0:=(Qq hk).2 oM;have:=Ag (Cx h2) hd;simp only at this;obtain⟨kd,rfl⟩:∃n:Nat,D=(n:Int):=⟨D.toNat,oM⟩
  exact XF c hg v0 v1 v2 v3 op A B Ec nn bt h1 kd oM w hv
 .by_cases h3:op=31\/op=33\/op=19\/op=20
  .have ha:(A4 op).a≠0:=by rcases h3 with rfl|rfl|rfl|rfl<;>decide
   have:=Ag (BF h2) ha;simp only at this;obtain⟨ka,rfl⟩:∃n:Nat,A=(n:Int):=⟨A.toNat,oM⟩
   exact XE c hg v0 v1 v2 v3 op D B Ec nn bt h3 ka oM w hv
  .exact XD v0 v1 v2 v3 op D A B Ec nn bt oM w
structure L3(T:Nat->Prop)(w:World)(a0 a1 a2 a3 a4:Value)(FB:Nat)(pr p5 p6:Option Addr)(n1 qr n2 q5 no q6:Nat)(gv pv:Value)(ct:Int)(X S O:List Cl)(v:World):Prop where
 sp:Jv w a0 a1 a2 a3 a4 FB (D5 a0 a1 a2 a3 (.slice pr n1 qr) (.slice p5 n2 q5) (.slice p6 no q6) gv pv (.int .i64 ct)) v
 cr:AT (T4 w T FB) v (.slice pr n1 qr) X
 cs:AT (T4 w T FB) v (.slice p5 n2 q5) S
 co:Ie (T4 w T FB) v (.slice p6 no q6) O
 ol:O.length=no
section
variable {T : Nat -> Prop} {w : World} {a0 a1 a2 a3 a4 : Value} {FB : Nat} {pr p5 p6 : Option Addr} {n1 qr n2 q5 no q6 : Nat} {gv pv : Value} {ct : Int} {X S O : List Cl} {v v' : World}
theorem L3.next(h:L3 T w a0 a1 a2 a3 a4 FB pr p5 p6 n1 qr n2 q5 no q6 gv pv ct X S O v)(k:Below v.heap.size v v'):L3 T w a0 a1 a2 a3 a4 FB pr p5 p6 n1 qr n2 q5 no q6 gv pv ct X S O v':=⟨h.sp.next k,h.cr.below k,h.cs.below k,h.co.below k,h.ol⟩
theorem L3.cost(h:L3 T w a0 a1 a2 a3 a4 FB pr p5 p6 n1 qr n2 q5 no q6 gv pv ct X S O v)(ct':Int):L3 T w a0 a1 a2 a3 a4 FB pr p5 p6 n1 qr n2 q5 no q6 gv pv ct' X S O (v.setCell ⟨FB,9,none⟩ (.int .i64 ct')):=by
 have hu:Un (fun b=>b=FB) v (v.setCell ⟨FB,9,none⟩ (.int .i64 ct')):=(Un.refl _ _).setCell rF _;exact⟨(h.sp.put 9 _).congr (E4 rfl rfl rfl rfl rfl rfl rfl rfl rfl rfl),h.cr.un hu (fun b _ e=>.inr (.inr e)),h.cs.un hu (fun b _ e=>.inr (.inr e)),h.co.un hu (fun b _ e=>.inr (.inr e)),h.ol⟩
theorem L3.put(h:L3 T w a0 a1 a2 a3 a4 FB pr p5 p6 n1 qr n2 q5 no q6 gv pv ct X S O v)(k:Below v.heap.size v v'){pr' p5' p6':Option Addr}{qr' q5' q6':Nat}{X' S' O':List Cl}(h1:AT (T4 w T FB) v' (.slice pr' n1 qr') X')(h2:AT (T4 w T FB) v' (.slice p5' n2 q5') S')(h3:Ie (T4 w T FB) v' (.slice p6' no q6') O')(hl:O'.length=O.length):
 L3 T w a0 a1 a2 a3 a4 FB pr' p5' p6' n1 qr' n2 q5' no q6' gv pv ct X' S' O' (Na v' FB a0 a1 a2 a3 (.slice pr' n1 qr') (.slice p5' n2 q5') (.slice p6' no q6') gv pv (.int .i64 ct)):=by
 have hu:=Jr v' FB a0 a1 a2 a3 (.slice pr' n1 qr') (.slice p5' n2 q5') (.slice p6' no q6') gv pv (.int .i64 ct);exact⟨(h.sp.next k).putT _ _ _ _ _ _ _ _ _ _,h1.un hu (fun b _ e=>.inr (.inr e)),h2.un hu (fun b _ e=>.inr (.inr e)),h3.un hu (fun b _ e=>.inr (.inr e)),hl.trans h.ol⟩
theorem L3.cells(h:L3 T w a0 a1 a2 a3 a4 FB pr p5 p6 n1 qr n2 q5 no q6 gv pv ct X S O v):v.cell? ⟨FB,0,none⟩=some a0/\v.cell? ⟨FB,1,none⟩=some a1/\v.cell? ⟨FB,2,none⟩=some a2/\v.cell? ⟨FB,3,none⟩=some a3/\v.cell? ⟨FB,4,none⟩=some (.slice pr n1 qr)/\v.cell? ⟨FB,5,none⟩=some (.slice p5 n2 q5)/\v.cell? ⟨FB,6,none⟩=some (.slice p6 no q6)/\v.cell? ⟨FB,7,none⟩=some gv/\v.cell? ⟨FB,8,none⟩=some pv/\v.cell? ⟨FB,9,none⟩=some (.int .i64 ct):=
 ⟨h.sp.f.cell (i:=0) dE,h.sp.f.cell (i:=1) dE,h.sp.f.cell (i:=2) dE,h.sp.f.cell (i:=3) dE,h.sp.f.cell (i:=4) dE,h.sp.f.cell (i:=5) dE,h.sp.f.cell (i:=6) dE,h.sp.f.cell (i:=7) dE,h.sp.f.cell (i:=8) dE,h.sp.f.cell (i:=9) dE⟩
theorem L3.frz(h:L3 T w a0 a1 a2 a3 a4 FB pr p5 p6 n1 qr n2 q5 no q6 gv pv ct X S O v):∀i,v.frozen? ⟨FB,i,none⟩=false:=fun i=>h.sp.f.frozen i
theorem L3.code(h:L3 T w a0 a1 a2 a3 a4 FB pr p5 p6 n1 qr n2 q5 no q6 gv pv ct X S O v):v.cell? ⟨w.heap.size+1+1,0,none⟩=some a0/\v.cell? ⟨w.heap.size+1+1,1,none⟩=some a1/\v.cell? ⟨w.heap.size+1+1,2,none⟩=some a2/\v.cell? ⟨w.heap.size+1+1,3,none⟩=some a3:=
 ⟨h.sp.b.c.cell (i:=0) dE,h.sp.b.c.cell (i:=1) dE,h.sp.b.c.cell (i:=2) dE,h.sp.b.c.cell (i:=3) dE⟩
end
theorem Yz{v:World}{XB:Nat}{b0 b1 b2 b3 b4 b5 b6:Value}(h:v.rowIs XB 40 7 (f7 b0 b1 b2 b3 b4 b5 b6)):v.cell? ⟨XB,0,none⟩=some b0/\v.cell? ⟨XB,1,none⟩=some b1/\v.cell? ⟨XB,2,none⟩=some b2/\v.cell? ⟨XB,3,none⟩=some b3/\v.cell? ⟨XB,4,none⟩=some b4/\v.cell? ⟨XB,5,none⟩=some b5/\v.cell? ⟨XB,6,none⟩=some b6:=
 ⟨h.cell (i:=0) dE,h.cell (i:=1) dE,h.cell (i:=2) dE,h.cell (i:=3) dE,h.cell (i:=4) dE,h.cell (i:=5) dE,h.cell (i:=6) dE⟩
theorem Ui{T:Nat->Prop}{w:World}{a0 a1 a2 a3 a4:Value}{FB:Nat}{pr p5 p6:Option Addr}{n1 qr n2 q5 no q6:Nat}{gv pv:Value}{ct:Int}{X S O:List Cl}{v:World}{c:Cd}{l:List Hd}{pu:Option Addr}{n0 qu:Nat}{L:List (List Int)}{u0 u1 u2 u3 u4:Value}{d0 d1 d2 d3:Value}(h:L3 T w a0 a1 a2 a3 a4 FB pr p5 p6 n1 qr n2 q5 no q6 gv pv ct X S O v){NB:Nat}(hNB:w.heap.size+1+1<NB)(hv:F7 (fun b=>b<NB) v (.slice pu n0 qu) L)(hs:S.map (·.h)=l)(ho:Ib c l):
 ∃p5' q5' pu' qu' k S',Ending.returned (.tuple #[.agg #[d0,d1,d2,d3,.slice p5 n2 q5],.slice pu n0 qu,.int .i64 0,.int .i64 ct])=.returned (.tuple #[.agg #[d0,d1,d2,d3,.slice p5' n2 q5'],.slice pu' n0 qu',.int .i64 0,.int .i64 k])/\S'.map (·.h)=l/\AT T (((((v.setCell ⟨w.heap.size+1,0,none⟩ u0).setCell ⟨w.heap.size+1,1,none⟩ u1).setCell ⟨w.heap.size+1,2,none⟩ u2).setCell ⟨w.heap.size+1,3,none⟩ u3).setCell ⟨w.heap.size+1,4,none⟩ u4) (.slice p5' n2 q5') S'/\F7 (fun b=>b<w.heap.size) (((((v.setCell ⟨w.heap.size+1,0,none⟩ u0).setCell ⟨w.heap.size+1,1,none⟩ u1).setCell ⟨w.heap.size+1,2,none⟩ u2).setCell ⟨w.heap.size+1,3,none⟩ u3).setCell ⟨w.heap.size+1,4,none⟩ u4) (.slice pu' n0 qu') L/\Ib c l/\Below w.heap.size w (((((v.setCell ⟨w.heap.size+1,0,none⟩ u0).setCell ⟨w.heap.size+1,1,none⟩ u1).setCell ⟨w.heap.size+1,2,none⟩ u2).setCell ⟨w.heap.size+1,3,none⟩ u3).setCell ⟨w.heap.size+1,4,none⟩ u4):=by
 have hu:Un (fun b=>b=w.heap.size+1) v (((((v.setCell ⟨w.heap.size+1,0,none⟩ u0).setCell ⟨w.heap.size+1,1,none⟩ u1).setCell ⟨w.heap.size+1,2,none⟩ u2).setCell ⟨w.heap.size+1,3,none⟩ u3).setCell ⟨w.heap.size+1,4,none⟩ u4):=(((((Un.refl _ _).setCell rF _).setCell rF _).setCell rF _).setCell rF _).setCell rF _;refine⟨p5,q5,pu,qu,ct,S,rfl,hs,(h.cs.un hu fun b _ e=>.inr (.inl ⟨oM,oM⟩)).mono fun b _ e=>.inl e,?_,ho,?_⟩
 .exact(hv.un hu fun b _ e=>by omega).mono fun b _ e=>by omega
 .exact((((h.sp.b.bel.setCell Pd _).setCell Pd _).setCell Pd _).setCell Pd _).setCell Pd _
theorem Un.step{U:Nat->Prop}{a b d:World}(h:Un U a b)(k:Below a.heap.size b d):Un U a d:=⟨k.os.trans h.os,k.tape.trans h.tape,k.output.trans h.output,gH h.size k.size,fun x hx hu=>(k.block x hx).trans (h.block x hx hu)⟩
theorem YD{T:Nat->Prop}{E:Nat}{v:World}{sv:Value}{Y:List Cl}(h:Jt E v sv Y)(hT:∀b,T b->b<E)(hl:∀x∈Y,∀b o s,x.p=some ⟨b,o,s⟩->x.h.pats≠[]->¬T b):AT T v sv Y:=by
 refine⟨Hl H8 h.own hT,fun x hx=>?_⟩;exact Zef
theorem As{v:World}{a:Addr}{x:Value}{B:Nat}(h:v.cell? a=some x)(hne:¬a.block=B):∀u0 u1 u2 u3 u4,(((((v.setCell ⟨B,0,none⟩ u0).setCell ⟨B,1,none⟩ u1).setCell ⟨B,2,none⟩ u2).setCell ⟨B,3,none⟩ u3).setCell ⟨B,4,none⟩ u4).cell? a=some x:=fun u0 u1 u2 u3 u4=>AN (AN (AN (AN (AN h hne u0) hne u1) hne u2) hne u3) hne u4
theorem Ap{v:World}{a:Addr}{x:Value}{B i:Nat}(h:v.cell? a=some x)(hne:¬a.block=B):∀u,(v.setCell ⟨B,i,none⟩ u).cell? a=some x:=fun u=>AN h hne u
theorem Ox{T:Nat->Prop}(p0 p1 p2 p3 ps pg pp:Option Addr)(q0 q1 q2 q3 qs qg qp:Nat)(c:Cd)(hc:(Ai c).1=0)(hk:Ba c)(l:List Hd)(hso:Ib c l)(S0:List Cl)(hS0:S0.map (·.h)=l)(G P:List (List Int))(kG:FI G)(kP:FI P)(hf:Ev c G P=true)(w:World)(hT:∀b,T b->b<w.heap.size)
 (hv:CE w (.slice p0 c.sign.length q0) (.slice p1 c.regs.length q1) (.slice p2 c.slots.length q2) (.slice p3 c.list.length q3) c) (hss:AT T w (.slice ps c.slots.length qs) S0) (hgv:Jh w (.slice pg G.length qg) G) (hpv:Jh w (.slice pp P.length qp) P):
 Calls prog 25 #[.agg #[.slice p0 c.sign.length q0,.slice p1 c.regs.length q1,.slice p2 c.slots.length q2,.slice p3 c.list.length q3,.slice ps c.slots.length qs],.slice pg G.length qg,.slice pp P.length qp] w fun e w'=>∃p5 q5 pu qu k S',e=.returned (.tuple #[.agg #[.slice p0 c.sign.length q0,.slice p1 c.regs.length q1,.slice p2 c.slots.length q2,.slice p3 c.list.length q3,.slice p5 c.slots.length q5],.slice pu c.sign.length qu,.int .i64 0,.int .i64 k])/\S'.map (·.h)=(EO c l G P).slots/\AT T w' (.slice p5 c.slots.length q5) S'/\F7 (fun b=>b<w.heap.size) w' (.slice pu c.sign.length qu) (Gg c (EO c l G P))/\Ib c (EO c l G P).slots/\Below w.heap.size w w':=by
 obtain⟨hg,htk⟩:=Ez hc;have hfG:C8 c.sign (G.map (·.length))=true:=by unfold Ev at hf;simp only[Bool.and_eq_true]at hf;exact hf.1
 have hfP:C8 c.sign (P.map (·.length))=true:=by unfold Ev at hf;simp only[Bool.and_eq_true]at hf;exact hf.2
 have fg:F5 c G:=R5 hfG kG hg;have fp:F5 c P:=R5 hfP kP hg;have KF1:Hid (∀v,Below w.heap.size w v->Calls prog 41 #[.slice p0 c.sign.length q0,.slice pg G.length qg] v fun e w'=>e=.returned (.bool true)/\Below v.heap.size v w'):=fun v hb=>by have h1:=EG (.slice p0 c.sign.length q0) c.sign hg.signL hk.names (.slice pg G.length qg) G kG.len kG.lens v (hv.sign.below hb) (hgv.below hb);rw[hfG]at h1;exact h1
 have KF2:Hid (∀v,Below w.heap.size w v->Calls prog 41 #[.slice p0 c.sign.length q0,.slice pp P.length qp] v fun e w'=>e=.returned (.bool true)/\Below v.heap.size v w'):=fun v hb=>by have h1:=EG (.slice p0 c.sign.length q0) c.sign hg.signL hk.names (.slice pp P.length qp) P kP.len kP.lens v (hv.sign.below hb) (hpv.below hb);rw[hfP]at h1;exact h1
 have HKF:Hid (∀s∈c.slots,∀v,Below w.heap.size w v->Calls prog 24 #[.agg #[.slice p0 c.sign.length q0,.slice p1 c.regs.length q1,.slice p2 c.slots.length q2,.slice p3 c.list.length q3],.agg #[.int .i64 s.ty.kind,.int .i64 s.ty.par,.bool s.keep,.int .u32 s.bits,.int .i64 s.int_]] v fun e w'=>∃p q,e=.returned (.agg #[.slice p (Bf c s).pats.length q,.int .i64 (Bf c s).whole])/\C6 w' p (Bf c s).pats/\Below v.heap.size v w'/\∀b o s,p=some ⟨b,o,s⟩->v.heap.size<=b):=fun s hs v hb=>Kk _ _ _ _ c hg s (hg.slots s hs) ⟨(hk.sbits s hs).1,(hk.sbits s hs).2⟩ v (hv.below hb);have HH:Hid (Good c/\AR c ⟨[],[]⟩ c.list=true/\Ba c/\Ib c l/\S0.map (·.h)=l/\F5 c G/\F5 c P/\(∀b,T b->b<w.heap.size)):=⟨hg,htk,hk,hso,hS0,fg,fp,hT⟩
 have HV:Hid (CE w (.slice p0 c.sign.length q0) (.slice p1 c.regs.length q1) (.slice p2 c.slots.length q2) (.slice p3 c.list.length q3) c/\AT T w (.slice ps c.slots.length qs) S0/\Jh w (.slice pg G.length qg) G/\Jh w (.slice pp P.length qp) P):=⟨hv,hss,hgv,hpv⟩
 have b0:=hg.signL;have b1:=hg.regsL;have b2:=hg.slotsL;have b3:=hg.listL;obtain⟨n0,hn0⟩:∃n,c.sign.length=n:=⟨_,rfl⟩
 obtain⟨n1,hn1⟩:∃n,c.regs.length=n:=⟨_,rfl⟩
 obtain⟨n2,hn2⟩:∃n,c.slots.length=n:=⟨_,rfl⟩
 obtain⟨n3,hn3⟩:∃n,c.list.length=n:=⟨_,rfl⟩
 obtain⟨gl,hgl⟩:∃n,G.length=n:=⟨_,rfl⟩
 obtain⟨pl,hpl⟩:∃n,P.length=n:=⟨_,rfl⟩
 have HN:Hid (c.sign.length=n0/\c.regs.length=n1/\c.slots.length=n2/\c.list.length=n3/\G.length=gl/\P.length=pl):=⟨hn0,hn1,hn2,hn3,hgl,hpl⟩
 rw[hn0,hgl]at KF1;rw[hn0,hpl]at KF2;rw[hn0,hn1,hn2,hn3]at HKF;rw[hn0]at b0;rw[hn1]at b1;rw[hn2]at b2;rw[hn3]at b3;rw[hn0,hn1,hn2,hn3,hgl,hpl];have HSB0:Hid (SB w (.slice p0 n0 q0) (.slice p1 n1 q1) (.slice p2 n2 q2) (.slice p3 n3 q3) (.slice ps n2 qs) _):=SB.start w (.slice p0 n0 q0) (.slice p1 n1 q1) (.slice p2 n2 q2) (.slice p3 n3 q3) (.slice ps n2 qs);clear hc hk hso hS0 kG kP hf hT hv hss hgv hpv hg htk hfG hfP fg fp hn0 hn1 hn2 hn3 hgl hpl;go_enter func25,ntmps25;go_upto_region 2 with fail;obtain⟨W0,hW0⟩:∃W,(((w.alloc (.cells #[.slice p0 n0 q0,.slice p1 n1 q1,.slice p2 n2 q2,.slice p3 n3 q3,.slice ps n2 qs] 43)).alloc (.cells #[.slice none 0 0,.slice none 0 0,.slice none 0 0,.slice none 0 0,.slice none 0 0] 43)).alloc (.cells #[.slice p0 n0 q0,.slice p1 n1 q1,.slice p2 n2 q2,.slice p3 n3 q3] 27))=W:=⟨_,rfl⟩
 rw[hW0]at HSB0;rw[hW0];clear hW0;have c0:W0.cell? ⟨w.heap.size+1+1,0,none⟩=some (.slice p0 n0 q0):=HSB0.c.cell (i:=0) dE;go_upto_region 4 with(first
  |(go_at_call 41;(with_reducible refine(KF1.out _ HSB0.out.bel).mono ?_);rintro e w1 ⟨rfl,hb1⟩;have HSB1:Hid (SB w (.slice p0 n0 q0) (.slice p1 n1 q1) (.slice p2 n2 q2) (.slice p3 n3 q3) (.slice ps n2 qs) w1):=HSB0.out.next hb1;clear hb1 c0;have c0:w1.cell? ⟨w.heap.size+1+1,0,none⟩=some (.slice p0 n0 q0):=HSB1.out.c.cell (i:=0) dE)
  |(go_at_call 41;(with_reducible refine(KF2.out _ HSB1.out.bel).mono ?_);rintro e w2 ⟨rfl,hb2⟩;have HSB2:Hid (SB w (.slice p0 n0 q0) (.slice p1 n1 q1) (.slice p2 n2 q2) (.slice p3 n3 q3) (.slice ps n2 qs) w2):=HSB1.out.next hb2;clear hb2 c0))
 clear HSB0 HSB1 KF1 KF2;go_cut [11] (fun fv wx=>∃FB RB,fv=.pointer (some ⟨FB,0,none⟩)/\Hid (Jv w (.slice p0 n0 q0) (.slice p1 n1 q1) (.slice p2 n2 q2) (.slice p3 n3 q3) (.slice ps n2 qs) FB (D5 (.slice p0 n0 q0) (.slice p1 n1 q1) (.slice p2 n2 q2) (.slice p3 n3 q3) (.slice (some ⟨RB,0,none⟩) n1 n1) (.slice none 0 0) (.slice none 0 0) (.slice pg gl qg) (.slice pp pl qp) (.int .i64 0)) wx)/\Hid (AT (T4 w T FB) wx (.slice (some ⟨RB,0,none⟩) n1 n1) (Ss n1)))
 case first=>
  have c0:w2.cell? ⟨w.heap.size+1+1,0,none⟩=some (.slice p0 n0 q0):=HSB2.c.cell (i:=0) dE;have c1:w2.cell? ⟨w.heap.size+1+1,1,none⟩=some (.slice p1 n1 q1):=HSB2.c.cell (i:=1) dE;have c2:w2.cell? ⟨w.heap.size+1+1,2,none⟩=some (.slice p2 n2 q2):=HSB2.c.cell (i:=2) dE;have c3:w2.cell? ⟨w.heap.size+1+1,3,none⟩=some (.slice p3 n3 q3):=HSB2.c.cell (i:=3) dE;have hmk:=fun v=>Tq n1 b1 v;have d0:=fun o=>kc (A0 w2 o) c0;have d1:=fun o=>kc (A0 w2 o) c1;have d2:=fun o=>kc (A0 w2 o) c2;have d3:=fun o=>kc (A0 w2 o) c3;have e0:=fun o o'=>kc (A0 (w2.alloc o) o') (d0 o);have e1:=fun o o'=>kc (A0 (w2.alloc o) o') (d1 o);have e2:=fun o o'=>kc (A0 (w2.alloc o) o') (d2 o);have e3:=fun o o'=>kc (A0 (w2.alloc o) o') (d3 o);have hz2:=HSB2.size;refine rG (fun v=>v.cell? ⟨w.heap.size+1+1,0,none⟩=some (.slice p0 n0 q0)/\v.cell? ⟨w.heap.size+1+1,1,none⟩=some (.slice p1 n1 q1)/\v.cell? ⟨w.heap.size+1+1,2,none⟩=some (.slice p2 n2 q2)/\v.cell? ⟨w.heap.size+1+1,3,none⟩=some (.slice p3 n3 q3)) fun hJ=>?_;refine Tf 0 1 2 3 5 6 ?_;clear hJ;refine wpAnyH_ready (rs:=[4,8]) kR sM ?_;refine DP 4 (fun K hK=>?_) ?_
  .go_simp;refine Aq hK fun hJ=>?_;clear hK K;refine Bo 7 ?_;clear hJ;refine Aw 8 fun K hK=>?_;go_simp;refine Aq hK fun hJ=>?_;clear hK K;exact Zcg
  refine DP 8 (fun K hK=>?_) AllReadyH.nil;go_simp;refine Aq hK fun hJ=>?_;clear hK K;clear hJ;refine Aw 4 fun K hK=>?_;go_simp;refine Aq hK fun hJ=>?_;clear hK K;refine Bo 7 ?_;exact Zcg
 case rest=>
  obtain⟨FB,RB,rfl,HSP,HCS⟩:=hcut;clear HSB2;have hFE:FB<wc.heap.size:=HSP.f.lt;have hF2:=HSP.hF;have c2:wc.cell? ⟨w.heap.size+1+1,2,none⟩=some (.slice p2 n2 q2):=HSP.b.c.cell (i:=2) dE;go_wp2
  go_loopw [12] (fun iv wr=>∃ (j:Nat) (p5:Option Addr) (q5:Nat) (Y:List Cl),j<=n2/\iv=.int .i64 (j:Int)/\Hid (L1 T w (.slice p0 n0 q0) (.slice p1 n1 q1) (.slice p2 n2 q2) (.slice p3 n3 q3) (.slice ps n2 qs) FB wc.heap.size (D5 (.slice p0 n0 q0) (.slice p1 n1 q1) (.slice p2 n2 q2) (.slice p3 n3 q3) (.slice (some ⟨RB,0,none⟩) n1 n1) (.slice p5 j q5) (.slice none 0 0) (.slice pg gl qg) (.slice pp pl qp) (.int .i64 0)) wr (.slice p5 j q5) Y)/\Hid (Un (fun b=>b=FB) wc wr)/\Hid (Y.map (·.h)=(No c l).take j)) (fun iv _=>n2-(intOf iv).toNat)
  case atStart=>exact⟨0,none,0,[],gI _,rfl,⟨HSP.out,gF _,Jt.nil _ _,fun x hx=>by cases hx⟩,Un.refl _ _,rfl⟩
  case round=>
   clear c2;obtain⟨j,p5,q5,Y,hj,rfl,hl1,hun,hmap⟩:=hrel;have c2:wr.cell? ⟨w.heap.size+1+1,2,none⟩=some (.slice p2 n2 q2):=hl1.sp.b.c.cell (i:=2) dE;have hYl:Y.length=j:=by
    have h5:=congrArg List.length hmap.out;rw[List.length_map,List.length_take,Es HH.2.2.2.1.len,HN.2.2.1]at h5;omega
   have HYL:Hid (Y.length=j):=hYl;clear hYl;by_cases hlt:j<n2
   .have hll:j<c.slots.length:=by rw[HN.2.2.1];exact hlt
    have hb:=hl1.sp.b.bel;have HBW:Hid (Below w.heap.size w wr):=hb;obtain⟨lb,lo,hp2,hx⟩:=HV.1.slots.at hll;have hsl:j<S0.length:=by have h5:=congrArg List.length HH.2.2.2.2.1;rw[List.length_map,HH.2.2.2.1.len]at h5;omega
    obtain⟨rb,ro,hps,hxr⟩:=HV.2.1.row.row.at hsl;have hnx:=HV.2.1.nums _ (gD hsl);have KF1:=HKF.out c.slots[j] (gD hll);have hat:=Jw HH.2.2.2.1.len hll (by rw[Es HH.2.2.2.1.len];exact hll);have hSj:(S0[j]).h=l[j]'(by rw[HH.2.2.2.1.len];exact hll):=by
     have h5:(S0.map (·.h))[j]? =some (S0[j]).h:=by rw[List.getElem?_map,gB hsl];rfl
     rw[HH.2.2.2.2.1,gB (by rw[HH.2.2.2.1.len];exact hll)]at h5;simp only[Option.some.injEq]at h5;exact h5.symm
    have HMN:Hid (∀h',h'=(if c.slots[j].keep then(S0[j]).h else Bf c c.slots[j])->(Y.map (·.h))++[h']=(No c l).take (j+1)):=fun h' e=>by
     rw[hmap.out,List.take_succ_eq_append_getElem (by rw[Es HH.2.2.2.1.len];exact hll),hat,e,hSj]
    obtain⟨xs,hxs⟩:∃x,S0[j]=x:=⟨_,rfl⟩
    rw[hxs]at hxr hnx HMN;obtain⟨s9,hs9⟩:∃s,c.slots[j]=s:=⟨_,rfl⟩
    rw[hs9]at hx KF1 HMN;obtain⟨H9,hH9⟩:∃h,Bf c s9=h:=⟨_,rfl⟩
    rw[hH9]at KF1 HMN;obtain⟨⟨tk,tp⟩,kp,sb,si⟩:=s9;simp only at KF1 HMN;rw[hp2]at c2 KF1;have y0:wr.cell? ⟨lb,lo+j*5,none⟩=some (.int .i64 tk):=kc hb (hx.at 0 rfl);have y1:wr.cell? ⟨lb,lo+j*5+1,none⟩=some (.int .i64 tp):=kc hb (hx.at 1 rfl);have y2:wr.cell? ⟨lb,lo+j*5+2,none⟩=some (.bool kp):=kc hb (hx.at 2 rfl);have y3:wr.cell? ⟨lb,lo+j*5+3,none⟩=some (.int .u32 sb):=kc hb (hx.at 3 rfl);have y4:wr.cell? ⟨lb,lo+j*5+4,none⟩=some (.int .i64 si):=kc hb (hx.at 4 rfl);have x0:wr.cell? ⟨rb,ro+j*2,none⟩=some (.slice xs.p xs.h.pats.length xs.q):=kc hb (hxr.at 0 rfl);have x1:wr.cell? ⟨rb,ro+j*2+1,none⟩=some (.int .i64 xs.h.whole):=kc hb (hxr.at 1 rfl);have HXL:Hid (lb<w.heap.size/\rb<w.heap.size):=⟨A8 (hx.at 0 (v:=.int .i64 tk) rfl),A8 (hxr.at 0 (v:=.slice xs.p xs.h.pats.length xs.q) rfl)⟩
    have r4:wr.cell? ⟨w.heap.size,4,none⟩=some (.slice ps n2 qs):=hl1.sp.b.r.cell (i:=4) dE;rw[hps]at r4;have f5:wr.cell? ⟨FB,5,none⟩=some (.slice p5 j q5):=hl1.sp.f.cell (i:=5) dE;have HKF1:Hid _:=KF1;have HXW:Hid (B6 T w xs.p xs.h.pats):=hnx;have i1:(0:Int)<=(j:Int):=oM;have i2:(j:Int)<(n2:Int):=oM;have wi:IntKind.i64.wrap ((j:Int)+1)=((j+1:Nat):Int):=by rw[IntKind.wrap_i64];omega
    clear KF1 hx hxr hnx hs9 hxs hH9 hat hSj hmap hb;cases kp with
    |true=>
     have hFb:¬rb=FB:=by have h1:=HXL.2;omega
     have h22:=hl1.next (A9 wr);have hlen:Y.length=j:=HYL.out;have h22c:Jt wc.heap.size wr.drew (.slice p5 Y.length q5) Y:=by rw[hlen];exact h22.cs
     have hlocx:∀b o s,xs.p=some ⟨b,o,s⟩->xs.h.pats≠[]->b<w.heap.size/\¬T b:=fun b o s e h0=>by
      rcases HXW.out with e1|⟨b',o',e1,h1,-,h2⟩
      .exact absurd e1 h0
      .rw[e]at e1;simp only[Option.some.injEq,Addr.mk.injEq]at e1;have h3:=A8 (h2 0 (List.length_pos_iff.2 h0));simp only at h3;rw[e1.1];exact⟨h3,h1⟩
     have hxA:GY wr.drew (.slice p5 Y.length q5) xs.p xs.h.pats:=by
      rcases HXW.out with e1|⟨b,o,e1,h1,h3,h2⟩
      .exact .inl e1
      .refine .inr ⟨b,o,e1,fun e5=>?_,fun k hk=>kc (bel HBW.out (A9 _)) (h2 k hk)⟩;have h6:=(h22c.own.lt b e5).1;omega
     obtain⟨g,c',w3,hrun,hb3,hcs3,-⟩:=h22c.push h22.be oM xs hxA 41;have hloc3:∀x∈Y++[xs],∀b o s,x.p=some ⟨b,o,s⟩->x.h.pats≠[]->¬T4 w T FB b:=by
      intro x hx b o s e h0;rcases List.mem_append.1 hx with h|h
      .exact hl1.loc x h b o s e h0
      .simp only[List.mem_singleton]at h;subst h;have h5:=hlocx b o s e h0;exact fun h6=>h5.2 (t4_old hF2 h5.1 h6)
     obtain⟨k5,z5,hl3⟩:=h22.put hFE hb3 hcs3 hloc3;rw[hlen]at hrun hl3;have HRUN:Hid ((Builtin.append_ #[41,41] 41 #[.slice p5 j q5,.slice (some ⟨wr.heap.size,0,none⟩) 1 1]).run prog (wr.alloc (.cells #[.slice xs.p xs.h.pats.length xs.q,.int .i64 xs.h.whole] 74)).drew=.ok (.slice (some ⟨g,0,none⟩) (j+1) c') w3):=hrun;have hbF:Below w.heap.size w w3:=(h22.sp.below hb3 hFE).b.bel;have s5:=(h22.sp.below hb3 hFE)
     have HL3:Hid (L1 T w (.slice p0 n0 q0) (.slice p1 n1 q1) (.slice p2 n2 q2) (.slice p3 n3 q3) (.slice ps n2 qs) FB wc.heap.size (D5 (.slice p0 n0 q0) (.slice p1 n1 q1) (.slice p2 n2 q2) (.slice p3 n3 q3) (.slice (some ⟨RB,0,none⟩) n1 n1) (.slice (some ⟨g,0,none⟩) (j+1) c') (.slice none 0 0) (.slice pg gl qg) (.slice pp pl qp) (.int .i64 0)) (w3.setCell ⟨FB,5,none⟩ (.slice (some ⟨g,0,none⟩) (j+1) c')) (.slice (some ⟨g,0,none⟩) (j+1) c') (Y++[xs])):=⟨hl3.sp.congr (E4 rfl rfl rfl rfl rfl rfl rfl rfl rfl rfl),hl3.be,hl3.cs,hl3.loc⟩
     have HUN3:Hid (Un (fun b=>b=FB) wc (w3.setCell ⟨FB,5,none⟩ (.slice (some ⟨g,0,none⟩) (j+1) c'))):=((hun.step ((A9 wr).mono hl1.be)).step hb3).setCell (p:=⟨FB,5,none⟩) rF _;have k0:=fun o=>kc (A0 wr o) f5;have k1:=fun o=>kc (A0 wr o) r4;have k2:=fun o=>kc (A0 wr o) x0;have k3:=fun o=>kc (A0 wr o) x1;have m1:w3.cell? ⟨w.heap.size,4,none⟩=some (.slice (some ⟨rb,ro,none⟩) n2 qs):=by rw[<-hps];exact s5.b.r.cell (i:=4) dE
     have m2:w3.cell? ⟨rb,ro+j*2,none⟩=some (.slice xs.p xs.h.pats.length xs.q):=(gC (hb3.block rb (by have h1:=HXL.2;omega))).trans x0;have m3:w3.cell? ⟨rb,ro+j*2+1,none⟩=some (.int .i64 xs.h.whole):=(gC (hb3.block rb (by have h1:=HXL.2;omega))).trans x1;have t1:=Ap (B:=FB) (i:=5) m1 (by show¬w.heap.size=FB;omega);have t2:=Ap (B:=FB) (i:=5) m2 (by show¬rb=FB;exact hFb);have t3:=Ap (B:=FB) (i:=5) m3 (by show¬rb=FB;exact hFb);clear h22 h22c hlocx hxA hrun hb3 hcs3 hloc3 hl3 hbF s5 hlen hp2 hps;go_upto_region 9 with fail;refine rG (fun v=>v.cell? ⟨w.heap.size,4,none⟩=some (.slice (some ⟨rb,ro,none⟩) n2 qs)/\v.cell? ⟨rb,ro+j*2,none⟩=some (.slice xs.p xs.h.pats.length xs.q)/\v.cell? ⟨rb,ro+j*2+1,none⟩=some (.int .i64 xs.h.whole)) fun hJ=>?_;refine Tf 0 2 3 4 5 6 ?_;clear hJ;refine wpAnyH_ready (rs:=[1,7]) kR sM ?_;refine DP 1 (fun K hK=>?_) ?_
     .go_simp;refine Aq hK fun hJ=>?_;clear hK K;clear hJ;refine Aw 7 fun K hK=>?_;exact Zce
     refine DP 7 (fun K hK=>?_) AllReadyH.nil;go_simp;refine Aq hK fun hJ=>?_;clear hK K;clear hJ;refine Aw 1 fun K hK=>?_;exact Zce
    |false=>
     have hFb:¬lb=FB:=by have h1:=HXL.1;omega
     have c0:wr.cell? ⟨w.heap.size+1+1,0,none⟩=some (.slice p0 n0 q0):=hl1.sp.b.c.cell (i:=0) dE;have c1:wr.cell? ⟨w.heap.size+1+1,1,none⟩=some (.slice p1 n1 q1):=hl1.sp.b.c.cell (i:=1) dE;have c3:wr.cell? ⟨w.heap.size+1+1,3,none⟩=some (.slice p3 n3 q3):=hl1.sp.b.c.cell (i:=3) dE;clear r4 x0 x1 hp2 hps;go_upto_region 10 with fail;refine rG (fun v=>v.cell? ⟨w.heap.size+1+1,0,none⟩=some (.slice p0 n0 q0)/\v.cell? ⟨w.heap.size+1+1,1,none⟩=some (.slice p1 n1 q1)/\v.cell? ⟨w.heap.size+1+1,2,none⟩=some (.slice (some ⟨lb,lo,none⟩) n2 q2)/\v.cell? ⟨w.heap.size+1+1,3,none⟩=some (.slice p3 n3 q3)/\v.cell? ⟨lb,lo+j*5,none⟩=some (.int .i64 tk)/\v.cell? ⟨lb,lo+j*5+1,none⟩=some (.int .i64 tp)/\v.cell? ⟨lb,lo+j*5+2,none⟩=some (.bool false)/\v.cell? ⟨lb,lo+j*5+3,none⟩=some (.int .u32 sb)/\v.cell? ⟨lb,lo+j*5+4,none⟩=some (.int .i64 si)) fun hJ=>?_;refine Tf 0 2 3 4 5 6 ?_;refine Bo 7 ?_;clear hJ;refine wpAnyH_ready (rs:=[1,8]) kR sM ?_;refine DP 1 (fun K hK=>?_) ?_
     .go_simp;refine Aq hK fun hJ=>?_;clear hK K;clear hJ;refine Aw 8 fun K hK=>?_;go_simp;(go_at_call 24;(with_reducible refine(HKF1.out _ (bel HBW.out (A9 _))).mono ?_);rintro e w2 ⟨pf,qf,rfl,hnum,hb2,hfr⟩;have hb22:Below wr.heap.size wr w2:=bel (A9 _) hb2;have h22:=hl1.out.next hb22;have h22c:Jt wc.heap.size w2 (.slice p5 Y.length q5) Y:=Zia;obtain⟨g,c',w3,hrun,hb3,hcs3,-⟩:=h22c.push h22.be (by have h5:=HYL.out;omega) ⟨pf,qf,H9⟩ (hnum.apart (fun b o s e e2=>by have h5:=hfr b o s e;have h6:wr.drew.heap.size=wr.heap.size:=rfl;have h7:b<wr.heap.size:=Zhg;omega)) 41;have hloc3:∀x∈Y++[(⟨pf,qf,H9⟩:Cl)],∀b o s,x.p=some ⟨b,o,s⟩->x.h.pats≠[]->¬T4 w T FB b:=(by intro x hx b o s e h0;rcases List.mem_append.1 hx with h|h;exact hl1.out.loc x h b o s e h0;simp only[List.mem_singleton]at h;subst h;intro h6;have h5:=hfr b o s e;have h7:=Mk HH.out.2.2.2.2.2.2.2 hF2 hFE h6;have h8:=hl1.out.be;have h9:wr.drew.heap.size=wr.heap.size:=rfl;omega);obtain⟨k5,z5,hl3⟩:=h22.put hFE hb3 hcs3 hloc3;rw[HYL.out]at hrun hl3;have HRUN:Hid _:=hrun;have s5:=(h22.sp.below hb3 hFE);have HL3:Hid (L1 T w (.slice p0 n0 q0) (.slice p1 n1 q1) (.slice p2 n2 q2) (.slice p3 n3 q3) (.slice ps n2 qs) FB wc.heap.size (D5 (.slice p0 n0 q0) (.slice p1 n1 q1) (.slice p2 n2 q2) (.slice p3 n3 q3) (.slice (some ⟨RB,0,none⟩) n1 n1) (.slice (some ⟨g,0,none⟩) (j+1) c') (.slice none 0 0) (.slice pg gl qg) (.slice pp pl qp) (.int .i64 0)) (w3.setCell ⟨FB,5,none⟩ (.slice (some ⟨g,0,none⟩) (j+1) c')) (.slice (some ⟨g,0,none⟩) (j+1) c') (Y++[(⟨pf,qf,H9⟩:Cl)])):=⟨hl3.sp.congr (E4 rfl rfl rfl rfl rfl rfl rfl rfl rfl rfl),hl3.be,hl3.cs,hl3.loc⟩;have HUN3:Hid (Un (fun b=>b=FB) wc (w3.setCell ⟨FB,5,none⟩ (.slice (some ⟨g,0,none⟩) (j+1) c'))):=((hun.out.step (hb22.mono hl1.out.be)).step hb3).setCell (p:=⟨FB,5,none⟩) rF _;have hlbE:lb<wc.heap.size:=(by have h1:=HXL.out.1;omega);have gc0:=kc hb22 c0;have ac0:=(fun o=>kc (A0 w2 o) gc0);have mc0:=(gC (hb3.block _ Zgg)).trans gc0;have tc0:=Ap (B:=FB) (i:=5) mc0 OX;have gc1:=kc hb22 c1;have ac1:=(fun o=>kc (A0 w2 o) gc1);have mc1:=(gC (hb3.block _ Zgg)).trans gc1;have tc1:=Ap (B:=FB) (i:=5) mc1 OX;have gc2:=kc hb22 c2;have ac2:=(fun o=>kc (A0 w2 o) gc2);have mc2:=(gC (hb3.block _ Zgg)).trans gc2;have tc2:=Ap (B:=FB) (i:=5) mc2 OX;have gc3:=kc hb22 c3;have ac3:=(fun o=>kc (A0 w2 o) gc3);have mc3:=(gC (hb3.block _ Zgg)).trans gc3;have tc3:=Ap (B:=FB) (i:=5) mc3 OX;have gy0:=kc hb22 y0;have ay0:=(fun o=>kc (A0 w2 o) gy0);have my0:=(gC (hb3.block _ hlbE)).trans gy0;have ty0:=Ap (B:=FB) (i:=5) my0 hFb;have gy1:=kc hb22 y1;have ay1:=(fun o=>kc (A0 w2 o) gy1);have my1:=(gC (hb3.block _ hlbE)).trans gy1;have ty1:=Ap (B:=FB) (i:=5) my1 hFb;have gy2:=kc hb22 y2;have ay2:=(fun o=>kc (A0 w2 o) gy2);have my2:=(gC (hb3.block _ hlbE)).trans gy2;have ty2:=Ap (B:=FB) (i:=5) my2 hFb;have gy3:=kc hb22 y3;have ay3:=(fun o=>kc (A0 w2 o) gy3);have my3:=(gC (hb3.block _ hlbE)).trans gy3;have ty3:=Ap (B:=FB) (i:=5) my3 hFb;have gy4:=kc hb22 y4;have ay4:=(fun o=>kc (A0 w2 o) gy4);have my4:=(gC (hb3.block _ hlbE)).trans gy4;have ty4:=Ap (B:=FB) (i:=5) my4 hFb;have gf5:=kc hb22 f5;have af5:=(fun o=>kc (A0 w2 o) gf5);clear hnum hb2 hfr hb22 h22 h22c hrun hb3 hcs3 hloc3 hl3 s5);try(go_wp2_with fail)
      refine Aq hK fun hJ=>?_;clear hK K;clear hJ;refine Aw 9 fun K hK=>?_;exact Zbi
     refine DP 8 (fun K hK=>?_) AllReadyH.nil;go_simp;(go_at_call 24;(with_reducible refine(HKF1.out _ (bel HBW.out (A9 _))).mono ?_);rintro e w2 ⟨pf,qf,rfl,hnum,hb2,hfr⟩;have hb22:Below wr.heap.size wr w2:=bel (A9 _) hb2;have h22:=hl1.out.next hb22;have h22c:Jt wc.heap.size w2 (.slice p5 Y.length q5) Y:=Zia;obtain⟨g,c',w3,hrun,hb3,hcs3,-⟩:=h22c.push h22.be (by have h5:=HYL.out;omega) ⟨pf,qf,H9⟩ (hnum.apart (fun b o s e e2=>by have h5:=hfr b o s e;have h6:wr.drew.heap.size=wr.heap.size:=rfl;have h7:b<wr.heap.size:=Zhg;omega)) 41;have hloc3:∀x∈Y++[(⟨pf,qf,H9⟩:Cl)],∀b o s,x.p=some ⟨b,o,s⟩->x.h.pats≠[]->¬T4 w T FB b:=(by intro x hx b o s e h0;rcases List.mem_append.1 hx with h|h;exact hl1.out.loc x h b o s e h0;simp only[List.mem_singleton]at h;subst h;intro h6;have h5:=hfr b o s e;have h7:=Mk HH.out.2.2.2.2.2.2.2 hF2 hFE h6;have h8:=hl1.out.be;have h9:wr.drew.heap.size=wr.heap.size:=rfl;omega);obtain⟨k5,z5,hl3⟩:=h22.put hFE hb3 hcs3 hloc3;rw[HYL.out]at hrun hl3;have HRUN:Hid _:=hrun;have s5:=(h22.sp.below hb3 hFE);have HL3:Hid (L1 T w (.slice p0 n0 q0) (.slice p1 n1 q1) (.slice p2 n2 q2) (.slice p3 n3 q3) (.slice ps n2 qs) FB wc.heap.size (D5 (.slice p0 n0 q0) (.slice p1 n1 q1) (.slice p2 n2 q2) (.slice p3 n3 q3) (.slice (some ⟨RB,0,none⟩) n1 n1) (.slice (some ⟨g,0,none⟩) (j+1) c') (.slice none 0 0) (.slice pg gl qg) (.slice pp pl qp) (.int .i64 0)) (w3.setCell ⟨FB,5,none⟩ (.slice (some ⟨g,0,none⟩) (j+1) c')) (.slice (some ⟨g,0,none⟩) (j+1) c') (Y++[(⟨pf,qf,H9⟩:Cl)])):=⟨hl3.sp.congr (E4 rfl rfl rfl rfl rfl rfl rfl rfl rfl rfl),hl3.be,hl3.cs,hl3.loc⟩;have HUN3:Hid (Un (fun b=>b=FB) wc (w3.setCell ⟨FB,5,none⟩ (.slice (some ⟨g,0,none⟩) (j+1) c'))):=((hun.out.step (hb22.mono hl1.out.be)).step hb3).setCell (p:=⟨FB,5,none⟩) rF _;have hlbE:lb<wc.heap.size:=(by have h1:=HXL.out.1;omega);have gc0:=kc hb22 c0;have ac0:=(fun o=>kc (A0 w2 o) gc0);have mc0:=(gC (hb3.block _ Zgg)).trans gc0;have tc0:=Ap (B:=FB) (i:=5) mc0 OX;have gc1:=kc hb22 c1;have ac1:=(fun o=>kc (A0 w2 o) gc1);have mc1:=(gC (hb3.block _ Zgg)).trans gc1;have tc1:=Ap (B:=FB) (i:=5) mc1 OX;have gc2:=kc hb22 c2;have ac2:=(fun o=>kc (A0 w2 o) gc2);have mc2:=(gC (hb3.block _ Zgg)).trans gc2;have tc2:=Ap (B:=FB) (i:=5) mc2 OX;have gc3:=kc hb22 c3;have ac3:=(fun o=>kc (A0 w2 o) gc3);have mc3:=(gC (hb3.block _ Zgg)).trans gc3;have tc3:=Ap (B:=FB) (i:=5) mc3 OX;have gy0:=kc hb22 y0;have ay0:=(fun o=>kc (A0 w2 o) gy0);have my0:=(gC (hb3.block _ hlbE)).trans gy0;have ty0:=Ap (B:=FB) (i:=5) my0 hFb;have gy1:=kc hb22 y1;have ay1:=(fun o=>kc (A0 w2 o) gy1);have my1:=(gC (hb3.block _ hlbE)).trans gy1;have ty1:=Ap (B:=FB) (i:=5) my1 hFb;have gy2:=kc hb22 y2;have ay2:=(fun o=>kc (A0 w2 o) gy2);have my2:=(gC (hb3.block _ hlbE)).trans gy2;have ty2:=Ap (B:=FB) (i:=5) my2 hFb;have gy3:=kc hb22 y3;have ay3:=(fun o=>kc (A0 w2 o) gy3);have my3:=(gC (hb3.block _ hlbE)).trans gy3;have ty3:=Ap (B:=FB) (i:=5) my3 hFb;have gy4:=kc hb22 y4;have ay4:=(fun o=>kc (A0 w2 o) gy4);have my4:=(gC (hb3.block _ hlbE)).trans gy4;have ty4:=Ap (B:=FB) (i:=5) my4 hFb;have gf5:=kc hb22 f5;have af5:=(fun o=>kc (A0 w2 o) gf5);clear hnum hb2 hfr hb22 h22 h22c hrun hb3 hcs3 hloc3 hl3 s5);try(go_wp2_with fail)
     refine Aq hK fun hJ=>?_;clear hK K;clear hJ;refine wpAnyH_ready (rs:=[1,9]) kR sM ?_;refine DP 1 (fun K hK=>?_) ?_
     .go_simp;refine Aq hK fun hJ=>?_;clear hK K;clear hJ;refine Aw 9 fun K hK=>?_;exact Zbi
     refine DP 9 (fun K hK=>?_) AllReadyH.nil;go_simp;refine Aq hK fun hJ=>?_;clear hK K;clear hJ;refine Aw 1 fun K hK=>?_;exact Zbi
   .have hjn:n2=j:=oM;subst hjn;have HYM:Hid (Y.map (·.h)=No c l):=by
     show _=_;have h5:=hmap.out;rw[List.take_of_length_le (by rw[Es HH.2.2.2.1.len,HN.2.2.1];exact gF _)]at h5;exact h5
    have HCR:Hid (AT (T4 w T FB) wr (.slice (some ⟨RB,0,none⟩) n1 n1) (Ss n1)/\AT (T4 w T FB) wr (.slice p5 n2 q5) Y):=⟨HCS.un hun.out (fun b _ e=>.inr (.inr e)),YD hl1.cs (fun b hb=>Mk HH.2.2.2.2.2.2.2 hF2 hFE hb) hl1.loc⟩
    have HSP1:Hid (Jv w (.slice p0 n0 q0) (.slice p1 n1 q1) (.slice p2 n2 q2) (.slice p3 n3 q3) (.slice ps n2 qs) FB (D5 (.slice p0 n0 q0) (.slice p1 n1 q1) (.slice p2 n2 q2) (.slice p3 n3 q3) (.slice (some ⟨RB,0,none⟩) n1 n1) (.slice p5 n2 q5) (.slice none 0 0) (.slice pg gl qg) (.slice pp pl qp) (.int .i64 0)) wr):=hl1.sp;have hFW:FB<wr.heap.size:=hl1.sp.f.lt;have c0:wr.cell? ⟨w.heap.size+1+1,0,none⟩=some (.slice p0 n0 q0):=hl1.sp.b.c.cell (i:=0) dE;have e1:¬ (n2:Int)<(n2:Int):=oM;clear hmap hlt hl1 hun HCS HSP hFE HKF;rename World=>we;go_wp2
    go_loopw [13] (fun iv wr=>∃ (j:Nat) (p6:Option Addr) (q6:Nat) (Y6:List Cl),j<=n0/\iv=.int .i64 (j:Int)/\Hid (L2 T w (.slice p0 n0 q0) (.slice p1 n1 q1) (.slice p2 n2 q2) (.slice p3 n3 q3) (.slice ps n2 qs) FB we.heap.size (D5 (.slice p0 n0 q0) (.slice p1 n1 q1) (.slice p2 n2 q2) (.slice p3 n3 q3) (.slice (some ⟨RB,0,none⟩) n1 n1) (.slice p5 n2 q5) (.slice p6 (2*j) q6) (.slice pg gl qg) (.slice pp pl qp) (.int .i64 0)) wr (.slice p6 (2*j) q6) Y6)/\Hid (Un (fun b=>b=FB) we wr)/\Hid (Y6.map (·.h)=MR c j)) (fun iv _=>n0-(intOf iv).toNat)
    case atStart=>exact⟨0,none,0,[],gI _,rfl,⟨HSP1.out,gF _,Su.nil _ _,fun x hx=>by cases hx⟩,Un.refl _ _,rfl⟩
    case round=>
     clear c0;obtain⟨j,p6,q6,Y6,hj,rfl,hl2,hun,hmap⟩:=hrel;have c0:wr.cell? ⟨w.heap.size+1+1,0,none⟩=some (.slice p0 n0 q0):=hl2.sp.b.c.cell (i:=0) dE;have HYL:Hid (Y6.length=2*j):=by
      have h5:=congrArg List.length hmap.out;rw[List.length_map,MR,List.length_map,List.length_range]at h5;exact h5
     by_cases hlt:j<n0
     .have hll:j<c.sign.length:=by rw[HN.1];exact hlt
      have hb:=hl2.sp.b.bel;obtain⟨lb,lo,hp0,hx⟩:=HV.1.sign.at hll;have hln:=JR HH.1 hll;have hlb:=HH.1.len _ (gD hll);have HMN:Hid (∀h',h'=(⟨List.replicate (lenOf c (j:Int)) 0,0⟩:Hd)->(Y6.map (·.h))++[h',h']=MR c (j+1)):=fun h' e=>by rw[hmap.out,Tv,e]
      obtain⟨⟨nm,K,L⟩,hT9⟩:∃t:BM,c.sign[j]=t:=⟨_,rfl⟩
      rw[hT9]at hx hln hlb;simp only at hln hlb;obtain⟨ln,hlnn⟩:∃n,lenOf c (j:Int)=n:=⟨_,rfl⟩
      rw[hlnn]at hln HMN;subst hln;have y2:wr.cell? ⟨lb,lo+j*3+2,none⟩=some (.int .i64 (ln:Int)):=kc hb (hx.at 2 rfl);rw[hp0]at c0;have f6:wr.cell? ⟨FB,6,none⟩=some (.slice p6 (2*j) q6):=hl2.sp.f.cell (i:=6) dE;have HFI:Hid (∀v,Calls prog 39 #[.int .i64 (ln:Int),.int .i64 0] v fun e w'=>∃q cap,e=.returned (.tuple #[.slice q ln cap,.int .i64 0])/\Bb w' q ln (fun i=>.int .i64 (An 0))/\Below v.heap.size v w'/\∀b o s,q=some ⟨b,o,s⟩->v.heap.size<=b):=Iv ln 0 JM oM;have i1:(0:Int)<=(j:Int):=oM;have i2:(j:Int)<(n0:Int):=oM;have wi:IntKind.i64.wrap ((j:Int)+1)=((j+1:Nat):Int):=by rw[IntKind.wrap_i64];omega
      clear hx hT9 hlnn hlb hmap hb hp0;go_upto_region 15 with(go_at_call 39;(with_reducible refine(HFI.out _).mono ?_);rintro e w4 ⟨pf,qf,rfl,hrf,hb4,hfr⟩;have h22:=hl2.out.next hb4;have h22c:Su we.heap.size w4 (.slice p6 Y6.length q6) Y6:=Zia;have hnum:C6 w4 pf (List.replicate ln 0):=(by show Bb _ _ _ _;rw[List.length_replicate];rcases hrf with h9|⟨b,o,rfl,h8⟩;exact .inl h9;exact .inr ⟨b,o,rfl,fun k hk=>(by rw[h8 k hk];simp only;rw[Ji _ _ hk];rfl)⟩);obtain⟨g,c',w5,hrun,hb5,hcs5⟩:=h22c.push h22.be (by have h5:=HYL.out;omega) ⟨pf,qf,⟨List.replicate ln 0,0⟩⟩ (hnum.apart (fun b o s e e2=>by have h5:=hfr b o s e;have h7:b<wr.heap.size:=(by have h8:=hl2.out.cs.own.lt b Zib;exact h8.2);omega)) 88;have hloc5:∀x∈Y6++[(⟨pf,qf,⟨List.replicate ln 0,0⟩⟩:Cl),⟨pf,qf,⟨List.replicate ln 0,0⟩⟩],∀b o s,x.p=some ⟨b,o,s⟩->x.h.pats≠[]->¬T4 w T FB b:=(by intro x hx b o s e h0;rcases List.mem_append.1 hx with h|h;exact hl2.out.loc x h b o s e h0;simp only[List.mem_cons,List.not_mem_nil,or_false,or_self]at h;subst h;intro h6;have h5:=hfr b o s e;have h7:=Mk HH.out.2.2.2.2.2.2.2 hF2 hFW h6;have h8:=hl2.out.be;omega);obtain⟨k6,z6,hl5⟩:=h22.put hFW hb5 hcs5 hloc5;simp only[List.length_replicate]at hrun;rw[HYL.out]at hrun hl5;have HRUN:Hid _:=hrun;have HL5:Hid (L2 T w (.slice p0 n0 q0) (.slice p1 n1 q1) (.slice p2 n2 q2) (.slice p3 n3 q3) (.slice ps n2 qs) FB we.heap.size (D5 (.slice p0 n0 q0) (.slice p1 n1 q1) (.slice p2 n2 q2) (.slice p3 n3 q3) (.slice (some ⟨RB,0,none⟩) n1 n1) (.slice p5 n2 q5) (.slice (some ⟨g,0,none⟩) (2*j+2) c') (.slice pg gl qg) (.slice pp pl qp) (.int .i64 0)) (w5.setCell ⟨FB,6,none⟩ (.slice (some ⟨g,0,none⟩) (2*j+2) c')) (.slice (some ⟨g,0,none⟩) (2*j+2) c') (Y6++[(⟨pf,qf,⟨List.replicate ln 0,0⟩⟩:Cl),⟨pf,qf,⟨List.replicate ln 0,0⟩⟩])):=⟨hl5.sp.congr (E4 rfl rfl rfl rfl rfl rfl rfl rfl rfl rfl),hl5.be,hl5.cs,hl5.loc⟩;have HUN5:Hid (Un (fun b=>b=FB) we (w5.setCell ⟨FB,6,none⟩ (.slice (some ⟨g,0,none⟩) (2*j+2) c'))):=((hun.out.step (hb4.mono hl2.out.be)).step hb5).setCell (p:=⟨FB,6,none⟩) rF _;have g6:=kc hb4 f6;have a6:=(fun o=>kc (A0 w4 o) g6);clear hrf hb4 hfr h22 h22c hnum hrun hb5 hcs5 hloc5 hl5 c0 f6 y2)
      go_wp2_with(at_builtin;refine AO rF _ _ _ rF _ _ _ rF rF HRUN.out ?_);go_roundw
      case rel=>exact⟨j+1,some ⟨g,0,none⟩,c',Y6++[(⟨pf,qf,⟨List.replicate ln 0,0⟩⟩:Cl),⟨pf,qf,⟨List.replicate ln 0,0⟩⟩],oM,gN,HL5.out,HUN5.out,by show _=_;rw[List.map_append];exact HMN.out _ rfl⟩
      case measure=>first|(simp[intOf];omega)|omega
     .have hjn:n0=j:=oM;subst hjn;have HCR2:Hid (AT (T4 w T FB) wr (.slice (some ⟨RB,0,none⟩) n1 n1) (Ss n1)/\AT (T4 w T FB) wr (.slice p5 n2 q5) Y/\Ie (T4 w T FB) wr (.slice p6 (2*n0) q6) Y6):=⟨HCR.1.un hun.out (fun b _ e=>.inr (.inr e)),HCR.2.un hun.out (fun b _ e=>.inr (.inr e)),ZG hl2.cs (fun b hb=>Mk HH.2.2.2.2.2.2.2 hF2 hFW hb) hl2.loc⟩
      have HSP2:Hid (Jv w (.slice p0 n0 q0) (.slice p1 n1 q1) (.slice p2 n2 q2) (.slice p3 n3 q3) (.slice ps n2 qs) FB (D5 (.slice p0 n0 q0) (.slice p1 n1 q1) (.slice p2 n2 q2) (.slice p3 n3 q3) (.slice (some ⟨RB,0,none⟩) n1 n1) (.slice p5 n2 q5) (.slice p6 (2*n0) q6) (.slice pg gl qg) (.slice pp pl qp) (.int .i64 0)) wr):=hl2.sp;have HPL:Hid (KV c G P (BY c l) 0 0 (BY c l) ⟨[],[]⟩ (Ss c.regs.length) Y Y6):=⟨rfl,VS HH.1 HH.2.2.1 HH.2.2.2.1,E5.start _,.inl ⟨rfl,fun r hr=>by cases hr⟩,HH.2.1,TL HH.1 HH.2.2.2.1 HYM.out (by rw[hmap.out,HN.1]),.inl ⟨rfl,fun r hr=>by cases hr⟩⟩
      have c3:wr.cell? ⟨w.heap.size+1+1,3,none⟩=some (.slice p3 n3 q3):=hl2.sp.b.c.cell (i:=3) dE;have e2:¬ (n0:Int)<(n0:Int):=oM;have HOL:Hid (Y6.length=2*n0):=HYL.out;clear hmap hlt hl2 hun HCR HSP1 HYL HYM;rename World=>wf;go_wp2;clear c0
      go_loopw [16,17] (fun sv iv wr=>∃ (j k:Nat),j<=n3/\k<=j/\iv=.int .i64 (j:Int)/\sv=.int .i64 (k:Int)/\Hid (∃f s X S O pr qr p5 q5 p6 q6 ct,KV c G P (BY c l) j k f s X S O/\L3 T w (.slice p0 n0 q0) (.slice p1 n1 q1) (.slice p2 n2 q2) (.slice p3 n3 q3) (.slice ps n2 qs) FB pr p5 p6 n1 qr n2 q5 (2*n0) q6 (.slice pg gl qg) (.slice pp pl qp) ct X S O wr)) (fun _ iv _=>n3-(intOf iv).toNat)
      case atStart=>exact⟨0,0,gI _,gF _,rfl,rfl,_,_,_,_,_,_,_,_,_,_,_,_,HPL.out,⟨HSP2.out,by rw[HN.2.1];exact HCR2.1,HCR2.2.1,HCR2.2.2,HOL.out⟩⟩
      case round=>
       clear c3 HPL HSP2 HCR2 HOL;obtain⟨j,k,hj,hkj,rfl,rfl,HR⟩:=hrel;obtain⟨f,s,X,S,O,pr,qr,p5,q5,p6,q6,ct,hpl,h3⟩:=HR.out;have HPI:Hid (KV c G P (BY c l) j k f s X S O):=hpl;have H3:Hid (L3 T w (.slice p0 n0 q0) (.slice p1 n1 q1) (.slice p2 n2 q2) (.slice p3 n3 q3) (.slice ps n2 qs) FB pr p5 p6 n1 qr n2 q5 (2*n0) q6 (.slice pg gl qg) (.slice pp pl qp) ct X S O wr):=h3;have hFR:FB<wr.heap.size:=h3.sp.f.lt;obtain⟨c0,c1,c2,c3⟩:=h3.code;clear HR;by_cases hlt:j<n3
       .have hll:j<c.list.length:=by rw[HN.2.2.2.1];exact hlt
        have hb:=h3.sp.b.bel;have HBW:Hid (Below w.heap.size w wr):=hb;obtain⟨lb,lo,hp3,hx⟩:=HV.1.list.at hll;obtain⟨t1,-⟩:=hpl.taken hll;have hbit:=HH.2.2.1.ibits _ (gD hll);have HPASS:Hid (∀k',AK c G P (f,k) c.list[j]=(f,k')->(k≠0\/c.list[j].op=34)->∃s',KV c G P (BY c l) (j+1) k' f s' X S O):=fun k' h1 h2=>hpl.pass HH.1 HH.2.2.1.ibits HH.2.2.2.2.2.1 HH.2.2.2.2.2.2.1 hll h1 h2;have HNEED:Hid (k=0->Dy c f c.list[j]/\(∀r∈Ae c.list[j] (A4 c.list[j].op),QM c f X r.toNat)):=fun e=>by subst e;exact hpl.need hll
        have HDID0:Hid (k=0->∀X' S' O',¬ (c.list[j].op=34/\f.whs c.list[j].a.toNat=0)->Did c G P f c.list[j] X S O X' S' O'->∃f' s',KV c G P (BY c l) (j+1) 0 f' s' X' S' O'):=fun e X' S' O' h1 h2=>by subst e;exact hpl.did HH.1 HH.2.2.1.ibits HH.2.2.2.2.2.1 HH.2.2.2.2.2.2.1 hll h1 h2
        obtain⟨i9,hi9⟩:∃i,c.list[j]=i:=⟨_,rfl⟩
        rw[hi9]at hx t1 hbit HPASS HNEED HDID0;obtain⟨op,D,A,B,Ec,nn,bt⟩:=i9;simp only at hbit;have y0:wr.cell? ⟨lb,lo+j*7,none⟩=some (.int .i64 op):=kc hb (hx.at 0 rfl);have y1:wr.cell? ⟨lb,lo+j*7+1,none⟩=some (.int .i64 D):=kc hb (hx.at 1 rfl);have y2:wr.cell? ⟨lb,lo+j*7+2,none⟩=some (.int .i64 A):=kc hb (hx.at 2 rfl);have y3:wr.cell? ⟨lb,lo+j*7+3,none⟩=some (.int .i64 B):=kc hb (hx.at 3 rfl);have y4:wr.cell? ⟨lb,lo+j*7+4,none⟩=some (.int .i64 Ec):=kc hb (hx.at 4 rfl);have y5:wr.cell? ⟨lb,lo+j*7+5,none⟩=some (.int .i64 nn):=kc hb (hx.at 5 rfl);have y6:wr.cell? ⟨lb,lo+j*7+6,none⟩=some (.int .u32 bt):=kc hb (hx.at 6 rfl);rw[hp3]at c3;have i1:(0:Int)<=(j:Int):=oM;have i2:(j:Int)<(n3:Int):=oM;have wi:IntKind.i64.wrap ((j:Int)+1)=((j+1:Nat):Int):=by rw[IntKind.wrap_i64];omega
        have H3N:Hid (∀o,L3 T w (.slice p0 n0 q0) (.slice p1 n1 q1) (.slice p2 n2 q2) (.slice p3 n3 q3) (.slice ps n2 qs) FB pr p5 p6 n1 qr n2 q5 (2*n0) q6 (.slice pg gl qg) (.slice pp pl qp) ct X S O (wr.alloc o)):=fun o=>h3.next (A0 _ _);have HT1:Hid (AG c s ⟨op,D,A,B,Ec,nn,bt⟩=true/\AH bt):=⟨t1,hbit⟩
        clear hx hi9 hb hp3 t1 hbit hpl h3;by_cases hk0:k=0
        .subst hk0;have HND:Hid (Dy c f ⟨op,D,A,B,Ec,nn,bt⟩/\(∀r∈Ae ⟨op,D,A,B,Ec,nn,bt⟩ (A4 op),QM c f X r.toNat)):=HNEED.out rfl;have HDID:Hid (∀X' S' O',¬ (op=34/\f.whs A.toNat=0)->Did c G P f ⟨op,D,A,B,Ec,nn,bt⟩ X S O X' S' O'->∃f' s',KV c G P (BY c l) (j+1) 0 f' s' X' S' O'):=HDID0.out rfl;have KWE:Hid (∀v,Below w.heap.size w v->Calls prog 42 #[.agg #[.slice p0 n0 q0,.slice p1 n1 q1,.slice p2 n2 q2,.slice p3 n3 q3],.agg #[.int .i64 op,.int .i64 D,.int .i64 A,.int .i64 B,.int .i64 Ec,.int .i64 nn,.int .u32 bt]] v fun e w'=>(∃n:Nat,n<=4096/\e=.returned (.int .i64 (n:Int)))/\Below v.heap.size v w'):=fun v hb=>by
          have h9:=Qw HH.1 HT1.1 _ _ _ _ v (HV.1.below hb);rw[HN.1,HN.2.1,HN.2.2.1,HN.2.2.2.1]at h9;exact h9
         have KDO:Hid (∀v ct,L3 T w (.slice p0 n0 q0) (.slice p1 n1 q1) (.slice p2 n2 q2) (.slice p3 n3 q3) (.slice ps n2 qs) FB pr p5 p6 n1 qr n2 q5 (2*n0) q6 (.slice pg gl qg) (.slice pp pl qp) ct X S O v->Calls prog 43 #[.agg #[.slice p0 n0 q0,.slice p1 n1 q1,.slice p2 n2 q2,.slice p3 n3 q3,.slice pr n1 qr,.slice p5 n2 q5,.slice p6 (2*n0) q6,.slice pg gl qg,.slice pp pl qp,.int .i64 ct],.agg #[.int .i64 op,.int .i64 D,.int .i64 A,.int .i64 B,.int .i64 Ec,.int .i64 nn,.int .u32 bt]] v fun e w'=>∃pr' qr' p5' q5' p6' q6' X' S' O',e=.returned (.agg #[.slice p0 n0 q0,.slice p1 n1 q1,.slice p2 n2 q2,.slice p3 n3 q3,.slice pr' n1 qr',.slice p5' n2 q5',.slice p6' (2*n0) q6',.slice pg gl qg,.slice pp pl qp,.int .i64 ct])/\AT (T4 w T FB) w' (.slice pr' n1 qr') X'/\AT (T4 w T FB) w' (.slice p5' n2 q5') S'/\Ie (T4 w T FB) w' (.slice p6' (2*n0) q6') O'/\O'.length=2*n0/\Did c G P f ⟨op,D,A,B,Ec,nn,bt⟩ X S O X' S' O'/\Below v.heap.size v w'):=fun v ct h=>by
          have hd:=V5 (T:=T4 w T FB) HH.1 HPI.ok HT1.1 HT1.2 HH.2.2.2.2.2.1 HH.2.2.2.2.2.2.1 HND.1 HPI.rel HND.2 p0 p1 p2 p3 pr p5 p6 pg pp q0 q1 q2 q3 qr q5 q6 qg qp ct v (fun b hb=>Mk HH.2.2.2.2.2.2.2 hF2 h.sp.f.lt hb) (HV.1.below h.sp.b.bel) (by rw[HN.2.1];exact h.cr) (by rw[HN.2.2.1];exact h.cs) (by rw[h.ol];exact h.co) (HV.2.2.1.below h.sp.b.bel) (HV.2.2.2.below h.sp.b.bel);unfold rfV Ch at hd;rw[HN.1,HN.2.1,HN.2.2.1,HN.2.2.2.1,HN.2.2.2.2.1,HN.2.2.2.2.2,h.ol]at hd;exact hd
         clear HNEED HDID0;go_upto_region 27 with fail;have HX1:Hid ((wr.alloc (.cells #[.int .i64 op,.int .i64 D,.int .i64 A,.int .i64 B,.int .i64 Ec,.int .i64 nn,.int .u32 bt] 40)).rowIs wr.heap.size 40 7 (f7 (.int .i64 op) (.int .i64 D) (.int .i64 A) (.int .i64 B) (.int .i64 Ec) (.int .i64 nn) (.int .u32 bt))):=World.rowIs_alloc wr _ _ _ (f7_ok _ _ _ _ _ _ _);have H31:Hid (L3 T w (.slice p0 n0 q0) (.slice p1 n1 q1) (.slice p2 n2 q2) (.slice p3 n3 q3) (.slice ps n2 qs) FB pr p5 p6 n1 qr n2 q5 (2*n0) q6 (.slice pg gl qg) (.slice pp pl qp) ct X S O (wr.alloc (.cells #[.int .i64 op,.int .i64 D,.int .i64 A,.int .i64 B,.int .i64 Ec,.int .i64 nn,.int .u32 bt] 40))):=H3N.out _;obtain⟨W1,hW1⟩:∃W,wr.alloc (.cells #[.int .i64 op,.int .i64 D,.int .i64 A,.int .i64 B,.int .i64 Ec,.int .i64 nn,.int .u32 bt] 40)=W:=⟨_,rfl⟩
         rw[hW1]at HX1 H31;rw[hW1];clear hW1 c0 c1 c2 c3 y0 y1 y2 y3 y4 y5 y6 H3N;go_cut [] (fun wx=>∃ct':Int,Hid (L3 T w (.slice p0 n0 q0) (.slice p1 n1 q1) (.slice p2 n2 q2) (.slice p3 n3 q3) (.slice ps n2 qs) FB pr p5 p6 n1 qr n2 q5 (2*n0) q6 (.slice pg gl qg) (.slice pp pl qp) ct' X S O wx)/\Hid (wx.rowIs wr.heap.size 40 7 (f7 (.int .i64 op) (.int .i64 D) (.int .i64 A) (.int .i64 B) (.int .i64 Ec) (.int .i64 nn) (.int .u32 bt))))
         case first=>
          obtain⟨c0,c1,c2,c3⟩:=H31.code;obtain⟨z0,z1,z2,z3,z4,z5,z6⟩:=Yz HX1.out;obtain⟨-,-,-,-,-,-,-,-,-,g9⟩:=H31.cells;have v9:=H31.frz 9;refine rG (fun v=>v.cell? ⟨w.heap.size+1+1,0,none⟩=some (.slice p0 n0 q0)/\v.cell? ⟨w.heap.size+1+1,1,none⟩=some (.slice p1 n1 q1)/\v.cell? ⟨w.heap.size+1+1,2,none⟩=some (.slice p2 n2 q2)/\v.cell? ⟨w.heap.size+1+1,3,none⟩=some (.slice p3 n3 q3)/\v.cell? ⟨wr.heap.size,0,none⟩=some (.int .i64 op)/\v.cell? ⟨wr.heap.size,1,none⟩=some (.int .i64 D)/\v.cell? ⟨wr.heap.size,2,none⟩=some (.int .i64 A)/\v.cell? ⟨wr.heap.size,3,none⟩=some (.int .i64 B)/\v.cell? ⟨wr.heap.size,4,none⟩=some (.int .i64 Ec)/\v.cell? ⟨wr.heap.size,5,none⟩=some (.int .i64 nn)/\v.cell? ⟨wr.heap.size,6,none⟩=some (.int .u32 bt)) fun hJ=>?_;refine Tc 0 2 3 ?_;clear hJ;refine wpAnyH_ready (rs:=[1,4]) kR sM ?_;refine DP 1 (fun K hK=>?_) ?_
          .go_simp;refine Aq hK fun hJ=>?_;clear hK K;clear hJ;refine Aw 4 fun K hK=>?_;go_simp;(go_at_call 42;(with_reducible refine(KWE.out _ (bel H31.out.sp.b.bel (A9 _))).mono ?_);rintro e w3 ⟨⟨nw,hnw,rfl⟩,hb3⟩;have HB3:Hid (Below W1.heap.size W1 w3):=bel (A9 _) hb3;clear hb3 c0 c1 c2 c3 z0 z1 z2 z3 z4 z5 z6 g9 v9;obtain⟨c0,c1,c2,c3⟩:=(H31.out.next HB3.out).code;obtain⟨z0,z1,z2,z3,z4,z5,z6⟩:=Yz (HX1.out.of_block (HB3.out.block _ HX1.out.lt));obtain⟨-,-,-,-,-,-,-,-,-,g9⟩:=(H31.out.next HB3.out).cells;have v9:=(H31.out.next HB3.out).frz 9;have tc0:=Ap (B:=FB) (i:=9) c0 OX;have tc1:=Ap (B:=FB) (i:=9) c1 OX;have tc2:=Ap (B:=FB) (i:=9) c2 OX;have tc3:=Ap (B:=FB) (i:=9) c3 OX;have tz0:=Ap (B:=FB) (i:=9) z0 QO;have tz1:=Ap (B:=FB) (i:=9) z1 QO;have tz2:=Ap (B:=FB) (i:=9) z2 QO;have tz3:=Ap (B:=FB) (i:=9) z3 QO;have tz4:=Ap (B:=FB) (i:=9) z4 QO;have tz5:=Ap (B:=FB) (i:=9) z5 QO;have tz6:=Ap (B:=FB) (i:=9) z6 QO);try(go_wp2_with fail)
           exact Zdc
          refine DP 4 (fun K hK=>?_) AllReadyH.nil;go_simp;(go_at_call 42;(with_reducible refine(KWE.out _ (bel H31.out.sp.b.bel (A9 _))).mono ?_);rintro e w3 ⟨⟨nw,hnw,rfl⟩,hb3⟩;have HB3:Hid (Below W1.heap.size W1 w3):=bel (A9 _) hb3;clear hb3 c0 c1 c2 c3 z0 z1 z2 z3 z4 z5 z6 g9 v9;obtain⟨c0,c1,c2,c3⟩:=(H31.out.next HB3.out).code;obtain⟨z0,z1,z2,z3,z4,z5,z6⟩:=Yz (HX1.out.of_block (HB3.out.block _ HX1.out.lt));obtain⟨-,-,-,-,-,-,-,-,-,g9⟩:=(H31.out.next HB3.out).cells;have v9:=(H31.out.next HB3.out).frz 9;have tc0:=Ap (B:=FB) (i:=9) c0 OX;have tc1:=Ap (B:=FB) (i:=9) c1 OX;have tc2:=Ap (B:=FB) (i:=9) c2 OX;have tc3:=Ap (B:=FB) (i:=9) c3 OX;have tz0:=Ap (B:=FB) (i:=9) z0 QO;have tz1:=Ap (B:=FB) (i:=9) z1 QO;have tz2:=Ap (B:=FB) (i:=9) z2 QO;have tz3:=Ap (B:=FB) (i:=9) z3 QO;have tz4:=Ap (B:=FB) (i:=9) z4 QO;have tz5:=Ap (B:=FB) (i:=9) z5 QO;have tz6:=Ap (B:=FB) (i:=9) z6 QO);try(go_wp2_with fail)
          refine Aq hK fun hJ=>?_;clear hK K;clear hJ;refine Aw 1 fun K hK=>?_;go_simp;exact Zdc
         case rest=>
          obtain⟨ct',H32,HX2⟩:=hcut;obtain⟨z0,z1,z2,z3,z4,z5,z6⟩:=Yz HX2.out;obtain⟨g0,g1,g2,g3,g4,g5,g6,g7,g8,g9⟩:=H32.cells;clear H31 HX1;by_cases h34:op=34
          .subst h34;obtain⟨hk,h2,_,h4⟩:=Ao HT1.1;have hal:=Ag (BF h2) Zhw;simp only at hal;obtain⟨ka,rfl⟩:∃n:Nat,A=(n:Int):=⟨A.toNat,oM⟩
           have hkl:ka<X.length:=by rw[HPI.rel.xl];omega
           have hxa:X[ka]? =some X[ka]:=gB hkl;have hah:=Zd HND.2 (r:=(ka:Int)) (LI Zhw) oM hxa;have hma:=AP (BF h2) Zhw;have ka2:(Aa c.regs (ka:Int)).kind=2:=by simpa[B7,A4]using hma
           rw[Qm ka2,Int.toNat_natCast]at hah;have hlX:X.length=n1:=by rw[HPI.rel.xl,HN.2.1]
           obtain⟨rb,ro,hpr,hca⟩:=H32.cr.row.row.at hkl;have x1:wc.cell? ⟨rb,ro+ka*2+1,none⟩=some (.int .i64 (f.whs ka)):=by have h9:=hca.at 1 (v:=.int .i64 X[ka].h.whole) rfl;rw[hah]at h9;exact h9
           have l1:(0:Int)<=(ka:Int):=oM;have l2:(ka:Int)<(n1:Int):=oM;subst hpr;obtain⟨wh,hwh⟩:∃x,f.whs ka=x:=⟨_,rfl⟩
           have HWH:Hid (f.whs ka=wh):=hwh;rw[hwh]at x1;by_cases hz:wh=0
           .have hz1:(wh==0)=true:=by simpa using hz
            have HPS:Hid (∃s',KV c G P (BY c l) (j+1) 1 f s' X S O):=HPASS.out 1 (MP c G P f 0 rfl (.inr (by rw[show(⟨34,D,(ka:Int),B,Ec,nn,bt⟩:Ad).a.toNat=ka from Int.toNat_natCast ka,HWH.out,hz]))) (.inr rfl);clear hz hk h2 h4 hal hkl hxa hah hma ka2 hlX hca hwh KDO KWE HDID;go_wp2;go_roundw
            case rel=>
             obtain⟨s',hpl6⟩:=HPS.out;exact⟨j+1,1,oM,oM,gN,gN,f,s',X,S,O,some ⟨rb,ro,none⟩,qr,p5,q5,p6,q6,ct',hpl6,H32.out⟩
            case measure=>first|(simp[intOf];omega)|omega
           .have hz1:(wh==0)=false:=by simpa using hz
            have HNW:Hid (¬ ((34:Int)=34/\f.whs (ka:Int).toNat=0)):=fun e=>hz (by rw[<-HWH.out,<-e.2,Int.toNat_natCast]);clear hz hk h2 h4 hal hkl hxa hah hma ka2 hlX hca hwh KWE;exact Zbd
          .have h34b:(op==34)=false:=by simpa using h34
           have HNW:Hid (¬ (op=34/\f.whs A.toNat=0)):=fun e=>h34 e.1;clear h34 KWE;exact Zbd
        .obtain⟨K,rfl⟩:∃K,k=K+1:=⟨k-1,oM⟩
         have k1:(0:Int)<((K+1:Nat):Int):=oM;have k2:IntKind.i64.wrap (((K+1:Nat):Int)+1)=((K+2:Nat):Int):=by rw[IntKind.wrap_i64];omega
         have k3:IntKind.i64.wrap (((K+1:Nat):Int)-1)=((K:Nat):Int):=by rw[IntKind.wrap_i64];omega
         obtain⟨kz,hkz⟩:∃z:Int,((K+1:Nat):Int)=z:=⟨_,rfl⟩
         have HKZ:Hid (((K+1:Nat):Int)=kz):=hkz;rw[hkz]at k1 k2 k3;try rw[hkz]
         clear HNEED HDID0 hkz hk0;by_cases h34:op=34
         .have h34b:(op==34)=true:=by simpa using h34
          have HPS:Hid (∃s',KV c G P (BY c l) (j+1) (K+2) f s' X S O):=HPASS.out (K+2) (MP c G P f (K+1) h34 (.inl oM)) (.inl oM);clear h34;go_wp2;go_roundw
          case rel=>
           obtain⟨s',hpl6⟩:=HPS.out;exact⟨j+1,K+2,oM,oM,gN,gN,f,s',X,S,O,pr,qr,p5,q5,p6,q6,ct,hpl6,H3N.out _⟩
          case measure=>first|(simp[intOf];omega)|omega
         .have h34b:(op==34)=false:=by simpa using h34
          by_cases h35:op=35
          .have h35b:(op==35)=true:=by simpa using h35
           have HPS:Hid (∃s',KV c G P (BY c l) (j+1) K f s' X S O):=HPASS.out K (VK c G P f K h35) (.inl oM);clear h34 h35;go_wp2;go_roundw
           case rel=>
            obtain⟨s',hpl6⟩:=HPS.out;exact⟨j+1,K,oM,oM,gN,gN,f,s',X,S,O,pr,qr,p5,q5,p6,q6,ct,hpl6,H3N.out _⟩
           case measure=>first|(simp[intOf];omega)|omega
          .have h35b:(op==35)=false:=by simpa using h35
           have HPS:Hid (∃s',KV c G P (BY c l) (j+1) (K+1) f s' X S O):=HPASS.out (K+1) (VM c G P f K h34 h35) (.inl oM);clear h34 h35;go_wp2;go_roundw
           case rel=>
            obtain⟨s',hpl6⟩:=HPS.out;exact⟨j+1,K+1,oM,oM,gN,by rw[HKZ.out],f,s',X,S,O,pr,qr,p5,q5,p6,q6,ct,hpl6,H3N.out _⟩
           case measure=>first|(simp[intOf];omega)|omega
       .have hjn:n3=j:=oM;subst hjn;have HEJ:Hid (EO c l G P=f):=by
         show _=_;have h5:=HPI.go;rw[List.take_of_length_le (by rw[HN.2.2.2.1];exact gF _)]at h5;unfold EO;rw[h5]
        have KUP:Hid (∀v,Below wr.heap.size wr v->Calls prog 44 #[.agg #[.slice p0 n0 q0,.slice p1 n1 q1,.slice p2 n2 q2,.slice p3 n3 q3,.slice pr n1 qr,.slice p5 n2 q5,.slice p6 (2*n0) q6,.slice pg gl qg,.slice pp pl qp,.int .i64 ct]] v fun e w'=>∃p q,e=.returned (.slice p n0 q)/\F7 (fun b=>b<v.heap.size) w' (.slice p n0 q) (Gg c f)/\Below v.heap.size v w'):=fun v hb=>by
         have h9:=H3.next hb;have h8:=Xz c HH.1 _ _ _ _ (.slice pr n1 qr) (.slice p5 n2 q5) (.slice p6 (2*n0) q6) (.slice pg gl qg) (.slice pp pl qp) (.int .i64 ct) f X S O HPI.rel v (HV.1.below h9.sp.b.bel) ⟨h9.co.row.row,fun x hx=>(h9.co.nums x hx).num⟩;rw[HN.1,HN.2.1,HN.2.2.1,HN.2.2.2.1]at h8;exact h8
        have HSO:Hid (S.map (·.h)=f.slots/\Ib c f.slots):=⟨HPI.rel.sl,HPI.ok.slotsL,HPI.ok.slots,HPI.rel.sz⟩
        have e3:¬ (n3:Int)<(n3:Int):=oM;obtain⟨g0,g1,g2,g3,g4,g5,g6,g7,g8,g9⟩:=H3.out.cells;clear hlt HPI;go_upto_region 31 with fail;have a0:wr.cell? ⟨w.heap.size+1,0,none⟩=some (.slice none 0 0):=H3.out.sp.b.q.cell (i:=0) dE;refine rG (fun v=>v.cell? ⟨w.heap.size+1+1,0,none⟩=some (.slice p0 n0 q0)/\v.cell? ⟨w.heap.size+1+1,1,none⟩=some (.slice p1 n1 q1)/\v.cell? ⟨w.heap.size+1+1,2,none⟩=some (.slice p2 n2 q2)/\v.cell? ⟨w.heap.size+1+1,3,none⟩=some (.slice p3 n3 q3)/\v.cell? ⟨FB,0,none⟩=some (.slice p0 n0 q0)/\v.cell? ⟨FB,1,none⟩=some (.slice p1 n1 q1)/\v.cell? ⟨FB,2,none⟩=some (.slice p2 n2 q2)/\v.cell? ⟨FB,3,none⟩=some (.slice p3 n3 q3)/\v.cell? ⟨FB,4,none⟩=some (.slice pr n1 qr)/\v.cell? ⟨FB,5,none⟩=some (.slice p5 n2 q5)/\v.cell? ⟨FB,6,none⟩=some (.slice p6 (2*n0) q6)/\v.cell? ⟨FB,7,none⟩=some (.slice pg gl qg)/\v.cell? ⟨FB,8,none⟩=some (.slice pp pl qp)/\v.cell? ⟨FB,9,none⟩=some (.int .i64 ct)) fun hJ=>?_;refine Tf 0 1 2 3 4 6 ?_;refine Bo 7 ?_;clear hJ;refine Aw 5 fun K hK=>?_;go_simp;(go_at_call 44;(with_reducible refine(KUP.out _ (A9 _)).mono ?_);rintro e w5 ⟨pu,qu,rfl,hvs,hb5⟩;have HB5:Hid (Below wr.heap.size wr w5):=bel (A9 _) hb5;have H35:Hid (L3 T w (.slice p0 n0 q0) (.slice p1 n1 q1) (.slice p2 n2 q2) (.slice p3 n3 q3) (.slice ps n2 qs) FB pr p5 p6 n1 qr n2 q5 (2*n0) q6 (.slice pg gl qg) (.slice pp pl qp) ct X S O w5/\F7 (fun b=>b<wr.heap.size) w5 (.slice pu n0 qu) (Gg c f)):=⟨H3.out.next HB5.out,hvs⟩;clear hb5 hvs c0 c1 c2 c3 g0 g1 g2 g3 g4 g5 g6 g7 g8 g9 a0;obtain⟨c0,c1,c2,c3⟩:=H35.out.1.code;obtain⟨g0,g1,g2,g3,g4,g5,g6,g7,g8,g9⟩:=H35.out.1.cells;have a0:w5.cell? ⟨w.heap.size+1,0,none⟩=some (.slice none 0 0):=H35.out.1.sp.b.q.cell (i:=0) dE;have b10:=H35.out.1.sp.b.q.frozen 0;have a1:w5.cell? ⟨w.heap.size+1,1,none⟩=some (.slice none 0 0):=H35.out.1.sp.b.q.cell (i:=1) dE;have b11:=H35.out.1.sp.b.q.frozen 1;have a2:w5.cell? ⟨w.heap.size+1,2,none⟩=some (.slice none 0 0):=H35.out.1.sp.b.q.cell (i:=2) dE;have b12:=H35.out.1.sp.b.q.frozen 2;have a3:w5.cell? ⟨w.heap.size+1,3,none⟩=some (.slice none 0 0):=H35.out.1.sp.b.q.cell (i:=3) dE;have b13:=H35.out.1.sp.b.q.frozen 3;have a4:w5.cell? ⟨w.heap.size+1,4,none⟩=some (.slice none 0 0):=H35.out.1.sp.b.q.cell (i:=4) dE;have b14:=H35.out.1.sp.b.q.frozen 4;have tc0:=As c0 Zgr;have tc1:=As c1 Zgr;have tc2:=As c2 Zgr;have tc3:=As c3 Zgr;have tg0:=As g0 Yc;have tg1:=As g1 Yc;have tg2:=As g2 Yc;have tg3:=As g3 Yc;have tg4:=As g4 Yc;have tg5:=As g5 Yc;have tg6:=As g6 Yc;have tg7:=As g7 Yc;have tg8:=As g8 Yc;have tg9:=As g9 Yc);try(go_wp2_with fail)
        refine Aq hK fun hJ=>?_;clear hK K;clear hJ;refine Aw 8 fun K hK=>?_;go_simp;refine Aq hK fun hJ=>?_;clear hK K;refine Tc 9 10 11 ?_;refine wpAnyH_done kR ?_ _;go_wp2;refine bodyPost_ret Zhd rfl ?_;rw[HEJ.out];exact Ui H35.1 oM H35.2 HSO.1 HSO.2
def DJ(LB:Nat)(os:List Nat):List Value:=os.map fun o=>.pointer (some ⟨LB,o,none⟩)
theorem Wo(LB:Nat)(a b:List Nat):DJ LB (a++b)=DJ LB a++DJ LB b:=by simp[DJ]
theorem Vw:(prog.info? 92).map (fun i=>(i.zero,i.size,i.bytes))=some (some (.pointer none),1,8):=kR
theorem QS{E LB:Nat}{V:World}{p:Option Addr}{q:Nat}{os:List Nat}(h:V.ownsRow E 92 1 (.slice p os.length q) os.length (DJ LB os))(hE:E<=V.heap.size){RB d:Nat}(ns:List Nat)(hn:∀j (hj:j<ns.length),V.cell? ⟨RB,j,none⟩=some (.pointer (some ⟨LB,ns[j],none⟩)))(hl:os.length+ns.length<=1000000)(ty:TypeId):
 ∃p' q' w',(Builtin.append_ #[60,60] ty #[.slice p os.length q,.slice (some ⟨RB,0,none⟩) ns.length d]).run prog V=.ok (.slice p' (os.length+ns.length) q') w'/\w'.ownsRow E 92 1 (.slice p' (os++ns).length q') (os++ns).length (DJ LB (os++ns))/\Below E V w'/\∀b,b<V.heap.size->(Value.slice p os.length q).ownBlock≠some b->w'.heap[b]? =V.heap[b]? :=by
 obtain⟨i0,hi0,hz0,hz1,hz2⟩:=info_parts Vw;obtain⟨v',w',hr,h2,h3,-,-⟩:=run_append_own_at (P:=prog) V E 60 ty 92 i0 _ 1 8 underlying60 hi0 hz0 hz1 hz2 rfl dE (.slice p os.length q) os.length (DJ LB os) h ⟨RB,0,none⟩ ns.length d (DJ LB ns) (by simp[DJ]) (fun j u hu=>by
  have hj:j<ns.length:=by have:=(List.getElem?_eq_some_iff.1 hu).1;simpa[DJ]using this
  have hadd:(⟨RB,0,none⟩:Addr).add j=⟨RB,j,none⟩:=by unfold Addr.add;split<;>simp_all
  rw[hadd,hn j hj]
  simpa[DJ,hj]using hu) (by simp[DJ,Value.oneCell']) mL oM hE
 obtain⟨p',q',rfl⟩:=AZ h2;refine⟨p',q',w',hr,?_,(Below.refl E V).grown h3 hE (fun b e=>(h.lt b e).1),fun b hb hne=>h3.block b hb (fun e=>hne e.symm)⟩;rw[List.length_append,Wo];exact h2
theorem Nt{E LB:Nat}{V:World}{p:Option Addr}{q:Nat}{os:List Nat}(h:V.ownsRow E 92 1 (.slice p os.length q) os.length (DJ LB os))(hE:E<=V.heap.size)(o:Nat)(hl:os.length+1<=1000000)(ty:TypeId):
 ∃p' q' w',(Builtin.append_ #[60,60] ty #[.slice p os.length q,.slice (some ⟨V.heap.size,0,none⟩) 1 1]).run prog (V.alloc (.cells #[.pointer (some ⟨LB,o,none⟩)] 92))=.ok (.slice p' (os.length+1) q') w'/\w'.ownsRow E 92 1 (.slice p' (os++[o]).length q') (os++[o]).length (DJ LB (os++[o]))/\Below E V w'/\∀b,b<V.heap.size->(Value.slice p os.length q).ownBlock≠some b->w'.heap[b]? =V.heap[b]? :=by
 have hb0:Below V.heap.size V (V.alloc (.cells #[.pointer (some ⟨LB,o,none⟩)] 92)):=A0 _ _;obtain⟨p',q',w',h1,h2,h3,h4⟩:=QS (LB:=LB) (Ak h hb0) (gH hE hb0.size) (RB:=V.heap.size) (d:=1) [o] (fun j hj=>by
  have:j=0:=by simp only[List.length_cons,List.length_nil]at hj;omega
  subst this
  simp[go_sem]) hl ty
 exact⟨p',q',w',h1,h2,(hb0.mono hE).trans h3,fun b hb hne=>(h4 b (Nat.lt_of_lt_of_le hb hb0.size) hne).trans (hb0.block b hb)⟩
def Bu(l:List Ad):Nat->List Nat
 |0=>[]
 |j+1=>match l[j]? with
  |some i=>(Bu l j++(if Af i=true then [7*j+1]else []))++[7*j+2,7*j+3,7*j+4].take (Ae i (A4 i.op)).length
  |none=>Bu l j
def BC(l:List Ad):Nat->List Nat
 |0=>[]
 |j+1=>match l[j]? with
  |some i=>BC l j++(if i.op=32\/i.op=33 then [7*j+5]else [])
  |none=>BC l j
theorem In{l:List Ad}{j:Nat}(hj:j<l.length):Bu l (j+1)=(Bu l j++(if Af l[j]=true then [7*j+1]else []))++[7*j+2,7*j+3,7*j+4].take (Ae l[j] (A4 l[j].op)).length:=by
 rw[Bu,gB hj]
theorem Io{l:List Ad}{j:Nat}(hj:j<l.length):BC l (j+1)=BC l j++(if l[j].op=32\/l[j].op=33 then [7*j+5]else []):=by
 rw[BC,gB hj]
theorem It(i:Ad):(Ae i (A4 i.op)).length<=3:=by
 rw[F2];have h1:=DS (A4 i.op).a i.a;have h2:=DS (A4 i.op).b i.b;have h3:=DS (A4 i.op).c i.c;simp only[List.length_append];omega
theorem JZ(l:List Ad):∀j,(Bu l j).length<=4*j
 |0=>gF _
 |j+1=>by
  have ih:=JZ l j;rw[Bu];split
  .rename_i i _;simp only[List.length_append,List.length_take,List.length_cons,List.length_nil];have:(if Af i=true then [7*j+1]else []).length<=1:=by split<;>simp
   omega
  .omega
theorem K7(l:List Ad):∀j,(BC l j).length<=j
 |0=>gF _
 |j+1=>by
  have ih:=K7 l j;rw[BC];split
  .rename_i i _;simp only[List.length_append];have:(if i.op=32\/i.op=33 then [7*j+5]else []).length<=1:=by split<;>simp
   omega
  .omega
theorem Wv(l:List Ad)(w:World)(p:Option Addr)(cap LB:Nat)(hp:0<l.length->p=some ⟨LB,0,none⟩)(hr:AV 7 C9 w (.slice p l.length cap) l)(hl:l.length<=32768):
 Calls prog 15 #[.slice p l.length cap] w fun e w'=>∃q d,e=.returned (.slice q (Bu l l.length).length d)/\w'.ownsRow w.heap.size 92 1 (.slice q (Bu l l.length).length d) (Bu l l.length).length (DJ LB (Bu l l.length))/\Below w.heap.size w w':=by
 have HR:=A7 hr;obtain⟨M,hM⟩:=gA (l.length)
 have HM:=A7 hM;simp only[hM]at HR hp hl |-;obtain⟨E,hE⟩:=gA (w.heap.size)
 have HE:=A7 hE;simp only[hE];have HP:=A7 hp;clear hr hM hE hp;go_enter func15,ntmps15;go_wp2
 go_loopw [9,3] (fun iv lv wr=>∃ (j:Nat) (q:Option Addr) (d:Nat),j<=M/\iv=.int .i64 (j:Int)/\lv=.slice q (Bu l j).length d/\Hid (Below E w wr/\E<=wr.heap.size/\wr.ownsRow E 92 1 (.slice q (Bu l j).length d) (Bu l j).length (DJ LB (Bu l j)))) (fun iv _ _=>M-(intOf iv).toNat)
 case atStart=>exact⟨0,none,0,gI _,rfl,rfl,Below.refl E w,by rw[HE.out];exact gF _,World.ownsRow_nil _ _ _ 1⟩
 case round=>
  obtain⟨j,q,d',hj,rfl,rfl,HJ⟩:=hrel;by_cases hlt:j<M
  .have hjl:j<l.length:=by have:=HM.out;omega
   have hpe:=HP.out oM;subst hpe;obtain⟨hbj,hEw,hO⟩:=HJ.out;have HRV:Hid (∀v,Below E w v->AV 7 C9 v (.slice (some ⟨LB,0,none⟩) M cap) l):=fun v hv=>HR.below (by rw[HE.out];exact hv);have HCV:Hid (∀v,Below E w v->Ar v LB (7*j) (C9 l[j])):=fun v hv=>by
    obtain⟨b,o,e,h9⟩:=(HRV.out v hv).at hjl;simp only[Option.some.injEq,Addr.mk.injEq]at e;obtain⟨rfl,rfl,-⟩:=e;rw[Nat.zero_add,Nat.mul_comm]at h9;exact h9
   have HNX:=A7 (In hjl);have HLE:Hid ((Bu l j).length<=200000):=by have:=JZ l j;show _<=_;omega
   have HRL:=A7 (It l[j]);obtain⟨⟨op,d,a,b,e,n,z⟩,hi⟩:∃i,l[j]=i:=⟨_,rfl⟩
   rw[hi]at HCV HNX HRL;have HYY:Hid (∀v,Below E w v->v.cell? ⟨LB,7*j,none⟩=some (.int .i64 op)/\v.cell? ⟨LB,7*j+1,none⟩=some (.int .i64 d)/\v.cell? ⟨LB,7*j+2,none⟩=some (.int .i64 a)/\v.cell? ⟨LB,7*j+3,none⟩=some (.int .i64 b)/\v.cell? ⟨LB,7*j+4,none⟩=some (.int .i64 e)/\v.cell? ⟨LB,7*j+5,none⟩=some (.int .i64 n)/\v.cell? ⟨LB,7*j+6,none⟩=some (.int .u32 z)):=fun v hv=>by
    have hcl:=HCV.out v hv;exact⟨by have h9:=hcl.at 0 (v:=.int .i64 op) rfl;rw[Nat.add_zero]at h9;exact h9,hcl.at 1 rfl,hcl.at 2 rfl,hcl.at 3 rfl,hcl.at 4 rfl,hcl.at 5 rfl,hcl.at 6 rfl⟩
   obtain⟨y0,y1,y2,y3,y4,y5,y6⟩:=HYY.out wr hbj;have i1:(0:Int)<=(j:Int):=oM;have i2:(j:Int)<(M:Int):=oM;have wi:IntKind.i64.wrap ((j:Int)+1)=((j+1:Nat):Int):=by rw[IntKind.wrap_i64];omega
   have j7:j*7=7*j:=Nat.mul_comm _ _;have KS:=A7 (fun v=>OG ⟨op,d,a,b,e,n,z⟩ v);have KR:=A7 (fun v=>M4 ⟨op,d,a,b,e,n,z⟩ v);unfold Ch at KS KR;simp only at KS KR;obtain⟨P0,hP0⟩:∃P,Bu l j=P:=⟨_,rfl⟩
   rw[hP0]at hO HNX HLE;rw[hP0];have HBJ:=A7 hbj;have HEW:=A7 hEw;have HO:=A7 hO;obtain⟨rs,hrs⟩:=gA (Ae (⟨op,d,a,b,e,n,z⟩:Ad) (A4 op))
   simp only[hrs]at KR HNX HRL;clear hi hbj hEw hO HJ hP0 hrs HCV;obtain⟨P1,hP1⟩:∃P,P0++(if Af (⟨op,d,a,b,e,n,z⟩:Ad)=true then [7*j+1]else [])=P:=⟨_,rfl⟩
   rw[hP1]at HNX;have HP1L:Hid (P1.length<=200001):=by
    rw[<-hP1,List.length_append];have h9:(if Af (⟨op,d,a,b,e,n,z⟩:Ad)=true then [7*j+1]else []).length<=1:=by split<;>simp
    have:=HLE.out;show _<=_;omega
   have HP1:=A7 hP1;clear hP1;obtain⟨sb,hsb⟩:=gA (((A4 op).d != 0))
   have hsB:Af (⟨op,d,a,b,e,n,z⟩:Ad)=sb:=by rw[<-hsb];simp only[Af];by_cases h9:(A4 op).d=0<;>simp[h9]
   rw[hsB]at HP1;simp only[hsb]at KS;clear hsb hsB;go_upto_if 18 with(go_at_call 31;(with_reducible refine(KS.out _).mono ?_);rintro e9 w4 ⟨rfl,hb4⟩;have HB4:=A7 hb4;clear hb4)
   go_cut [3] (fun lv wx=>∃ (q:Option Addr) (d':Nat),lv=.slice q P1.length d'/\Hid (Below E w wx/\E<=wx.heap.size/\wx.ownsRow E 92 1 (.slice q P1.length d') P1.length (DJ LB P1)))
   case first=>
    cases sb with
    |false=>
     have HP2:Hid (P1=P0):=by show _=_;rw[<-HP1.out];simp
     go_wp2;go_meet;rw[HP2.out];exact⟨q,d',rfl,HBJ.trans (HB4.mono HEW.out),gH HEW.out HB4.size,Ak HO.out HB4.out⟩
    |true=>
     have HP2:Hid (P1=P0++[7*j+1]):=by show _=_;rw[<-HP1.out];simp
     obtain⟨p',q',w5,r1,r2,r3,-⟩:=Nt (LB:=LB) (Ak HO.out HB4.out) (gH HEW.out HB4.size) (7*j+1) (by have:=HLE.out;omega) 60;rw[<-HP2.out]at r2;have HR1:=A7 r1;have HR2:=A7 r2;have HR3:=A7 r3;have HLN:Hid (P1.length=P0.length+1):=by show _=_;rw[HP2.out];simp
     clear r1 r2 r3;go_wp2_with(at_builtin;refine AO rF _ _ _ rF _ _ _ rF rF HR1.out ?_);go_meet;refine⟨p',q',by rw[HLN.out],(HBJ.trans (HB4.mono HEW.out)).trans HR3.out,gH (gH HEW.out HB4.size) HR3.size,HR2.out⟩
   case rest=>
    obtain⟨q5,d5,rfl,HC5⟩:=hcut;obtain⟨hb5,hE5,ho5⟩:=HC5.out;have HB5:=A7 hb5;have HE5:=A7 hE5;have HO5:=A7 ho5;obtain⟨u0,-⟩:=HYY.out wc hb5;have lLB:LB<wc.heap.size:=A8 u0;have nLB:¬LB=wc.heap.size:=oM;have k0:∀o,(wc.alloc o).cell? ⟨LB,7*j,none⟩=some (.int .i64 op):=fun o=>kc (A0 _ _) u0;clear HC5 hb5 hE5 ho5 HO y0 y1 y2 y3 y4 y5 y6 HBJ HEW KS HB4;go_upto_region 8 with fail;refine rG (fun v=>v.cell? ⟨LB,7*j,none⟩=some (.int .i64 op)) fun hJ=>?_;refine Tf 0 1 2 3 4 5 ?_;refine Tc 6 7 8 ?_;refine Bo 9 ?_;clear hJ;refine Aw 10 fun K hK=>?_;go_simp;refine Aq hK fun hJ=>?_;clear hK K;clear hJ;refine Aw 11 fun K hK=>?_;go_simp;refine Aq hK fun hJ=>?_;clear hK K;refine wpAnyH_done kR ?_ _;obtain⟨W6,hW6⟩:∃W,(wc.alloc (.cells #[.pointer (some ⟨LB,7*j+2,none⟩),.pointer (some ⟨LB,7*j+3,none⟩),.pointer (some ⟨LB,7*j+4,none⟩)] 93)).drew=W:=⟨_,rfl⟩
    rw[hW6];have HB6:Hid (Below wc.heap.size wc W6):=by rw[<-hW6];exact bel (A0 _ _) (A9 _)
    have HX6:Hid (∀k (hk:k<3),W6.cell? ⟨wc.heap.size,k,none⟩=some (.pointer (some ⟨LB,[7*j+2,7*j+3,7*j+4][k],none⟩))):=fun k hk=>by
     rw[<-hW6];rcases(show k=0\/k=1\/k=2 by omega)with rfl|rfl|rfl<;>simp[go_sem]
    have HBW:Hid (Below E w W6):=HB5.trans (HB6.mono HE5.out);obtain⟨y0,y1,y2,y3,y4,y5,y6⟩:=HYY.out W6 HBW.out;obtain⟨m,hm⟩:=gA (rs.length)
    have HNS:Hid (([7*j+2,7*j+3,7*j+4].take rs.length).length=m):=by show _=_;have:=HRL.out;rw[List.length_take];simp only[List.length_cons,List.length_nil];omega
    have HMM:Hid (m<=3):=by rw[<-hm];exact HRL.out
    have m3:(m:Int)<=3:=by have:=HMM.out;omega
    have m4:m<=3:=HMM.out;have m5:(0:Int)<=(m:Int):=oM;simp only[hm]at KR;clear hW6 hm u0 k0;go_upto_region 9 with fail;go_wp2_with(first
     |(go_at_call 32;(with_reducible refine(KR.out _).mono ?_);rintro e9 w7 ⟨v7,rfl,ho7,hb7⟩;obtain⟨p7,q7,rfl⟩:=AZ ho7;have HB7:=A7 hb7;obtain⟨p',q',w8,r1,r2,r3,-⟩:=QS (LB:=LB) (RB:=wc.heap.size) (d:=3) (Ak HO5.out (bel HB6.out HB7.out)) (gH HE5.out (bel HB6.out HB7.out).size) ([7*j+2,7*j+3,7*j+4].take rs.length) (fun k hk=>by
      have h9:k<3:=by have:=HNS.out;have:=HMM.out;omega
      rw[List.getElem_take]
      exact kc HB7.out (HX6.out k h9)) (by have:=HNS.out;have:=HMM.out;have:=HP1L.out;omega) 60;rw[<-HNX.out]at r2;rw[HNS.out]at r1;have HR1:=A7 r1;have HR2:=A7 r2;have HR3:=A7 r3;clear r1 r2 r3 ho7 hb7)
     |(at_builtin;refine AO rF _ _ _ rF _ _ _ rF rF HR1.out ?_))
    go_roundw
    case rel=>
     refine⟨j+1,p',q',oM,gN,?_,(HBW.trans (HB7.mono (gH HE5.out HB6.size))).trans HR3.out,gH (gH HE5.out (bel HB6.out HB7.out).size) HR3.size,HR2.out⟩;rw[HNX.out,List.length_append,HNS.out]
    case measure=>simp[intOf];omega
  .have e9:¬ (j:Int)<(M:Int):=oM;have hjn:j=M:=oM;subst hjn;have HE2:=A7 (And.intro HJ.2.2 HJ.1);clear hlt HJ;go_wp2;refine bodyPost_ret (by simp[results,results15,go_sem, *];try rfl) rfl ?_;exact⟨_,_,rfl,HE2.1,HE2.2⟩
theorem XO(l:List Ad)(w:World)(p:Option Addr)(cap LB:Nat)(hp:0<l.length->p=some ⟨LB,0,none⟩)(hr:AV 7 C9 w (.slice p l.length cap) l)(hl:l.length<=32768):
 Calls prog 17 #[.slice p l.length cap] w fun e w'=>∃q d,e=.returned (.slice q (BC l l.length).length d)/\w'.ownsRow w.heap.size 92 1 (.slice q (BC l l.length).length d) (BC l l.length).length (DJ LB (BC l l.length))/\Below w.heap.size w w':=by
 have HR:=A7 hr;obtain⟨M,hM⟩:=gA (l.length)
 have HM:=A7 hM;simp only[hM]at HR hp hl |-;obtain⟨E,hE⟩:=gA (w.heap.size)
 have HE:=A7 hE;simp only[hE];have HP:=A7 hp;clear hr hM hE hp;go_enter func17,ntmps17;go_wp2
 go_loopw [8,3] (fun iv lv wr=>∃ (j:Nat) (q:Option Addr) (d:Nat),j<=M/\iv=.int .i64 (j:Int)/\lv=.slice q (BC l j).length d/\Hid (Below E w wr/\E<=wr.heap.size/\wr.ownsRow E 92 1 (.slice q (BC l j).length d) (BC l j).length (DJ LB (BC l j)))) (fun iv _ _=>M-(intOf iv).toNat)
 case atStart=>exact⟨0,none,0,gI _,rfl,rfl,Below.refl E w,by rw[HE.out];exact gF _,World.ownsRow_nil _ _ _ 1⟩
 case round=>
  obtain⟨j,q,d',hj,rfl,rfl,HJ⟩:=hrel;by_cases hlt:j<M
  .have hjl:j<l.length:=by have:=HM.out;omega
   have hpe:=HP.out oM;subst hpe;obtain⟨hbj,hEw,hO⟩:=HJ.out;have HNX:=A7 (Io hjl);have HLE:Hid ((BC l j).length<=200000):=by have:=K7 l j;show _<=_;omega
   obtain⟨b0,o0,e0,hcl⟩:=(HR.below (by rw[HE.out];exact hbj)).at hjl;simp only[Option.some.injEq,Addr.mk.injEq]at e0;obtain⟨rfl,rfl,-⟩:=e0;rw[Nat.zero_add,Nat.mul_comm]at hcl;obtain⟨⟨op,d,a,b,e,n,z⟩,hi⟩:∃i,l[j]=i:=⟨_,rfl⟩
   rw[hi]at hcl HNX;have y0:=hcl.at 0 (v:=.int .i64 op) rfl;rw[Nat.add_zero]at y0;have i1:(0:Int)<=(j:Int):=oM;have i2:(j:Int)<(M:Int):=oM;have wi:IntKind.i64.wrap ((j:Int)+1)=((j+1:Nat):Int):=by rw[IntKind.wrap_i64];omega
   have j7:j*7=7*j:=Nat.mul_comm _ _;obtain⟨P0,hP0⟩:∃P,BC l j=P:=⟨_,rfl⟩
   rw[hP0]at hO HNX HLE;rw[hP0];simp only at HNX;have HBJ:=A7 hbj;have HEW:=A7 hEw;have HO:=A7 hO;clear hi hbj hEw hO HJ hP0 hcl;by_cases ho:op=32\/op=33
   .rw[if_pos ho]at HNX;obtain⟨p',q',w5,r1,r2,r3,-⟩:=Nt (LB:=LB) HO.out HEW.out (7*j+5) (by have:=HLE.out;omega) 60;rw[<-HNX.out]at r2;have HR1:=A7 r1;have HR2:=A7 r2;have HR3:=A7 r3;have HLN:Hid ((BC l (j+1)).length=P0.length+1):=by show _=_;rw[HNX.out];simp
    clear r1 r2 r3 HNX;rcases ho with ho|ho
    .have o1:(op==32)=true:=by simpa using ho
     exact Zdq
    .have o1:(op==32)=false:=sO;have o2:(op==33)=true:=by simpa using ho
     exact Zdq
   .rw[if_neg ho,List.append_nil]at HNX;have o1:(op==32)=false:=sO;have o2:(op==33)=false:=sO;clear ho;go_wp2;go_roundw
    case rel=>
     refine⟨j+1,q,d',oM,gN,by rw[HNX.out],HBJ.out,HEW.out,?_⟩;rw[HNX.out];exact HO.out
    case measure=>simp[intOf];omega
  .have e9:¬ (j:Int)<(M:Int):=oM;have hjn:j=M:=oM;subst hjn;have HE2:=A7 (And.intro HJ.2.2 HJ.1);clear hlt HJ;go_wp2;refine bodyPost_ret (by simp[results,results17,go_sem, *];try rfl) rfl ?_;exact⟨_,_,rfl,HE2.1,HE2.2⟩
def isT:Option Value->Bool
 |some (.bool true)=>true
 |_=>false
def lenT:Option Value->Nat
 |some (.slice _ n _)=>n
 |_=>0
def msr(L B DB:Nat)(w:World):Nat:=((List.range L).filter fun p=> !(isT (w.cell? ⟨DB,p,none⟩))).length+lenT (w.cell? ⟨B,6,none⟩)
theorem VG{l:List Ad}{E R S:Nat}{s:Gh}{q:Sr}{w:World}{B C GB TB AB NB DB:Nat}{vg vt:Nat->Value}{vd:Value}{tag:Nat->Nat}(h:Bz E R S l.length s w B C GB TB AB NB DB vg vt vd tag)(hq:Er l s q):msr l.length B DB w=CA l q:=by
 unfold msr CA;have e1:(List.range l.length).filter (fun p=> !(isT (w.cell? ⟨DB,p,none⟩)))=(List.range l.length).filter (fun k=> !(q.nd k)):=List.filter_congr fun p hp=>by
  rw[h.d.cell (List.mem_range.1 hp),hq.nd];cases q.nd p<;>rfl
 obtain⟨po,cap,ev⟩:=AZ h.td;rw[e1,h.b6,ev];show _+s.todo.length=_;rw[hq.todo]
theorem Sq(l:List Ad)(q:Sr):q.todo.length<=CA l q:=Nat.le_add_left _ _
theorem Er.pop{l:List Ad}{s:Gh}{q:Sr}(h:Er l s q)(t:List Nat):Er l {s with todo:=t} {q with todo:=t}:=⟨h.nd,rfl,h.sl,h.tl,h.ar,h.en⟩
theorem PP{α:Type}{l:List α}(h:0<l.length):∃t p,l=t++[p]/\t=l.take (l.length-1)/\l[l.length-1]? =some p/\t.length=l.length-1:=by
 have hne:l≠[]:=fun e=>by rw[e]at h;cases h
 refine⟨l.dropLast,l.getLast hne,(List.dropLast_concat_getLast hne).symm,List.dropLast_eq_take ..,?_,sM⟩;rw[List.getLast_eq_getElem,gB]
theorem id_prn(K:Nat->Bool)(l:List Ad){j:Nat}(h:j<l.length):Bc K id l (j+1)=if K j=true then Bc K id l j++[l[j]]else Bc K id l j:=by
 split
 .rename_i hk;exact DI h hk
 .rename_i hk;exact Gs (by simpa using hk)
theorem Q4(c:Cd)(hc:(Ai c).1=0)(w:World)(C:Nat)(p1 p2 p3:Option Addr)(q1 q2 q3:Nat)(hR:c.regs.length<=16384)(hS:c.slots.length<=4096)(hL:c.list.length<=32768)(hC1:w.cell? ⟨C,1,none⟩=some (.slice p1 c.regs.length q1))(hC2:w.cell? ⟨C,2,none⟩=some (.slice p2 c.slots.length q2))(hC3:w.cell? ⟨C,3,none⟩=some (.slice p3 c.list.length q3))(hl:AV 7 C9 w (.slice p3 c.list.length q3) c.list):
 Calls prog 13 #[.pointer (some ⟨C,0,none⟩)] w fun e w'=>∃p q,e=.returned (.slice p (Bc (ndK c.list) id c.list c.list.length).length q)/\w'.ownsRow w.heap.size 40 7 (.slice p (Bc (ndK c.list) id c.list c.list.length).length q) (Bc (ndK c.list) id c.list c.list.length).length (Au C9 (Bc (ndK c.list) id c.list c.list.length))/\((Bc (ndK c.list) id c.list c.list.length).length=0->p=none/\q=0)/\Below w.heap.size w w':=by
 have HL:=A7 hl;have KN:=A7 (VJ c hc w C p1 p2 p3 q1 q2 q3 hR hS hL hC1 hC2 hC3 hl);have HGO:Hid (∀ (p:Nat) (hp:p<c.list.length),(∀r∈Ae c.list[p] (A4 c.list[p].op),0<=r/\r<(c.regs.length:Int))/\(c.list[p].op=32->0<=c.list[p].n/\c.list[p].n<(c.slots.length:Int))):=fun p hp=>by
  obtain⟨h1,h2,h3⟩:=Bi.1 hc;obtain⟨t1,t2,t3,t4⟩:=Ao (Ck h2 hp);refine⟨fun r hr=>?_,fun o=>?_⟩
  .unfold Ae at hr;simp only[List.mem_append]at hr;rcases hr with hr|hr|hr
   .split at hr
    .cases hr
    .rename_i hl;simp only[List.mem_singleton]at hr;subst hr;exact Ag (BF t2) hl
   .split at hr
    .cases hr
    .rename_i hl;simp only[List.mem_singleton]at hr;subst hr;exact Ag (CQ t2) hl
   .split at hr
    .cases hr
    .rename_i hl;simp only[List.mem_singleton]at hr;subst hr;exact Ag (CR t2) hl
  .obtain⟨n,e1,e2⟩:=Gu hc hp (.inl o);rw[e1];omega
 have HST:=A7 (Sn hc);have HNX:=A7 (fun(q:Sr) (h:UD c.list q) (t:List Nat) (p:Nat) (ht:q.todo=t++[p])=>UD.next hc h ht);obtain⟨R,hRe⟩:∃N,c.regs.length=N:=⟨_,rfl⟩
 obtain⟨S,hSe⟩:∃N,c.slots.length=N:=⟨_,rfl⟩
 simp only[hRe]at KN HGO;simp only[hSe]at KN HGO;obtain⟨M,hMe⟩:=gA (c.list.length)
 have HM:=A7 hMe;simp only[hMe]at KN HL hC3 hL |-;clear hl hRe hSe hc hC1 hC2 hR hS hMe;go_enter func13,ntmps13;go_upto_region 2 with(go_at_call 28;(with_reducible refine(KN.out).mono ?_);rintro e9 w1 ⟨v1,rfl,B,GB,TB,AB,NB,DB,vg,vt,vd,tag,s,rfl,hk1,hs1,hb1⟩;have HK1:=A7 hk1;have HS1:=A7 hs1;have HB1:=A7 hb1;have d3:=kc hb1 hC3;clear hk1 hs1 hb1)
 obtain⟨E,hE⟩:=gA (w.heap.size)
 simp only[hE]at HK1 HB1 |-;have HE:=A7 hE;have HCE:Hid (C<E):=by rw[<-hE];exact A8 hC3
 have HC3:Hid (∀v,Below E w v->v.cell? ⟨C,3,none⟩=some (.slice p3 M q3)/\AV 7 C9 v (.slice p3 M q3) c.list):=fun v hv=>by
  have hv':Below w.heap.size w v:=by rw[HE.out];exact hv
  exact⟨kc hv' hC3,HL.below hv'⟩
 have HK0:Hid (Below E w w1/\∃s vg vt vd tag,Bz E R S M s w1 B C GB TB AB NB DB vg vt vd tag/\Er c.list s (FK c.list 0)):=⟨HB1.out,s,vg,vt,vd,tag,HK1.out,HS1.out⟩
 clear hE HK1 HS1 HB1 KN hC3 HL;go_wp2;clear d3
 go_loopw [18] (fun iv wr=>∃j:Nat,j<=M/\iv=.int .i64 (j:Int)/\Hid (Below E w wr/\∃s vg vt vd tag,Bz E R S M s wr B C GB TB AB NB DB vg vt vd tag/\Er c.list s (FK c.list j))) (fun iv _=>M-(intOf iv).toNat)
 case atStart=>exact⟨0,gI _,rfl,HK0.out⟩
 case round=>
  clear HK0;obtain⟨j,hj,rfl,HJ⟩:=hrel;by_cases hlt:j<M
  .have hjl:j<c.list.length:=by have:=HM.out;omega
   obtain⟨hbj,s,vg,vt,vd,tag,hK,hP⟩:=HJ.out;obtain⟨-,hrow⟩:=HC3.out wr hbj;obtain⟨lb,lo,rfl,hcl⟩:=hrow.at hjl;have HON:=A7 (fun o=>RC hjl o);have HOY:=A7 (fun o=>Oa hjl o);have htd:s.todo.length<=M:=by
    have h9:=(MT (l:=c.list) j oM).2.2.2;have h8:=Sq c.list (FK c.list j);have h7:=HM.out;rw[hP.todo];omega
   obtain⟨⟨op,d,a,b,e,n,z⟩,hi⟩:∃i,c.list[j]=i:=⟨_,rfl⟩
   rw[hi]at hcl HON HOY;simp only at HON HOY;have y0:=hcl.at 0 (v:=.int .i64 op) rfl;rw[Nat.add_zero]at y0;have y1:=hcl.at 1 (v:=.int .i64 d) rfl;have y2:=hcl.at 2 (v:=.int .i64 a) rfl;have y3:=hcl.at 3 (v:=.int .i64 b) rfl;have y4:=hcl.at 4 (v:=.int .i64 e) rfl;have y5:=hcl.at 5 (v:=.int .i64 n) rfl;have y6:=hcl.at 6 (v:=.int .u32 z) rfl;have llb:lb<wr.heap.size:=A8 y0;have n9:¬lb=wr.heap.size:=oM;have i1:(0:Int)<=(j:Int):=oM;have i2:(j:Int)<(M:Int):=oM;have wi:IntKind.i64.wrap ((j:Int)+1)=((j+1:Nat):Int):=by rw[IntKind.wrap_i64];omega
   obtain⟨V2,hV2⟩:∃V,wr.alloc (.cells #[.int .i64 op,.int .i64 d,.int .i64 a,.int .i64 b,.int .i64 e,.int .i64 n,.int .u32 z] 40)=V:=⟨_,rfl⟩
   have HB2:Hid (Below wr.heap.size wr V2):=by rw[<-hV2];exact A0 _ _
   have hX2:V2.rowIs wr.heap.size 40 7 (UX op d a b e n z):=by rw[<-hV2];exact BS wr _ _
   have x0:V2.cell? ⟨wr.heap.size,0,none⟩=some (.int .i64 op):=hX2.cell (i:=0) dE;have HBV:Hid (Below E w V2):=hbj.trans (HB2.mono hK.lt);have HKV:=A7 (hK.below HB2.out);have HP:=A7 hP;have HTD:=A7 htd;clear hX2 hcl hi llb hbj hK hP htd hrow HJ;by_cases o:op=31
   .have o1:(op==31)=true:=by simpa using o
    have HOJ:=A7 (HOY.out o);obtain⟨W6,hW6⟩:∃W,V2.alloc (.cells #[.int .i64 (j:Int)] 3)=W:=⟨_,rfl⟩
    have HB6:Hid (Below V2.heap.size V2 W6):=by rw[<-hW6];exact A0 _ _
    have HK6:Hid (Bz E R S M s W6 B C GB TB AB NB DB vg vt vd (fun x=>if x<V2.heap.size then tag x else 0)):=(HKV.retag (fun x hx=>if_pos hx)).below HB6.out;have KE0:=FZ E R S M s W6 B C GB TB AB NB DB vg vt vd (fun x=>if x<V2.heap.size then tag x else 0) HK6.out V2.heap.size 1 0 (some ⟨V2.heap.size,0,none⟩) [j] (fun _=>rfl) (fun k hk=>by
     have hk2:k=0:=by simp only[List.length_cons,List.length_nil]at hk;omega
     rw[<-hW6];subst hk2
     simp[go_sem]) (fun _=>⟨if_neg oM,dE,dE,dE⟩) (fun x hx=>by
     simp only[List.mem_singleton]at hx
     rw[hx];exact hlt) Zgo oM
    rw[show [j].length=1 from rfl]at KE0;have KE:=A7 KE0;clear KE0;clear o HON HOY;go_upto_region 5 with fail;try rw[hV2]
    go_upto_region 6 with fail;go_wp2_with(go_at_call 29;(try rw[hW6]);(with_reducible refine(KE.out).mono ?_);rintro e9 w7 ⟨rfl,hb7,vd7,tag7,hk7,hs7⟩;have HB7:=A7 hb7;have HK7:=A7 hk7;clear hb7 hk7 hs7);go_roundw
    case rel=>
     refine⟨j+1,oM,gN,(HBV.trans (HB6.mono HKV.lt)).trans HB7.out,_,_,_,_,_,HK7.out,?_⟩;rw[HOJ.out];exact HP.need1 j
    case measure=>simp[intOf];omega
   .have o1:(op==31)=false:=by simpa using o
    have HOJ:=A7 (HON.out o);clear o HON HOY;go_upto_region 5 with fail;try rw[hV2]
    go_wp2;go_roundw
    case rel=>
     refine⟨j+1,oM,gN,HBV.out,_,_,_,_,_,HKV.out,?_⟩;rw[HOJ.out];exact HP.out
    case measure=>simp[intOf];omega
  .have e9:¬ (j:Int)<(M:Int):=oM;have hjn:j=c.list.length:=by have:=HM.out;omega
   have HK0:Hid (Below E w wr/\∃s vg vt vd tag q,Bz E R S M s wr B C GB TB AB NB DB vg vt vd tag/\Er c.list s q/\UD c.list q/\CA c.list q<=M):=by
    obtain⟨hbj,s,vg,vt,vd,tag,hK,hP⟩:=HJ.out;rw[hjn]at hP;refine⟨hbj,s,vg,vt,vd,tag,_,hK,hP,UD.begun c.list,?_⟩;have h9:=(MT (l:=c.list) c.list.length (gF _)).2.2.2;have:=HM.out;omega
   clear hlt hjn HJ hj;go_wp2
   go_loopw [6] (fun _ wr=>Hid (Below E w wr/\∃s vg vt vd tag q,Bz E R S M s wr B C GB TB AB NB DB vg vt vd tag/\Er c.list s q/\UD c.list q/\CA c.list q<=M)) (fun _ wr=>msr M B DB wr)
   case atStart=>exact HK0.out
   case round=>
    clear HK0;have HJ:=hrel;clear hrel;obtain⟨hbj,s,vg,vt,vd,tag,q,hK,hP,hI,hD⟩:=HJ.out;have b6:=hK.b6;have hML:=HM.out;have HMS:Hid (msr M B DB wr=CA c.list q):=by show _=_;rw[<-hML]at hK |-;exact VG hK hP
    by_cases hlt:0<s.todo.length
    .obtain⟨t,p,t1,t2,t3,t4⟩:=PP hlt;obtain⟨g,cap,rfl,g1,g2,g3,g4,g5⟩:=Dc hK.td hlt;have hcp:=g5 (s.todo.length-1) (.int .i64 (p:Int)) (by simp[BD,t3]);obtain⟨hp,hI',hD'⟩:=HNX.out q hI t p (by rw[<-hP.todo];exact t1);have hown:wr.ownsRow E 3 1 (.slice (some ⟨g,0,none⟩) t.length cap) t.length (BD t):=by
      have h9:=G5 hK.td (m:=s.todo.length-1) oM;rw[Nat.mul_one,Mc,<-t2,<-t4]at h9;exact h9
     have hK5:=hK.setTodo hown (fun x hx=>hK.ttd x (by rw[<-hx];rfl));obtain⟨W5,hW5⟩:∃W,wr.setCell ⟨B,6,none⟩ (.slice (some ⟨g,0,none⟩) t.length cap)=W:=⟨_,rfl⟩
     rw[hW5]at hK5;have hB5:Below E w W5:=by rw[<-hW5];exact hbj.setCell hK.hB _
     obtain⟨c3,hrow⟩:=HC3.out W5 hB5;have htl:=Sq c.list q;have f6:=hK.b.frozen 6;have KG:=A7 (Vo c.list E R S _ _ W5 B C GB TB AB NB DB vg vt _ tag (by rw[hML];exact hK5) (hP.pop t) p3 q3 (by rw[hML];exact c3) (by rw[hML];exact hrow) p hp (HGO.out p hp).1 (HGO.out p hp).2 HST.out (by show t.length<=40000;have:=hP.todo;rw[this]at t4;omega) oM);simp only[hML]at KG;have HI':=A7 hI';have HD':Hid (CA c.list (goQ c.list {q with todo:=t} p c.list[p])+1=CA c.list q/\CA c.list q<=M):=⟨hD',hD⟩
     have HB5:=A7 hB5;obtain⟨N,hN⟩:=gA (s.todo.length)
     obtain⟨N1,hN1⟩:∃N,t.length=N:=⟨_,rfl⟩
     rw[hN,hN1]at t4;simp only[hN]at b6 hlt hcp g3;rw[hN1]at hW5;rw[show N-1=N1 by omega]at hcp;have hNN:N=N1+1:=oM;subst hNN;have i1:(0:Int)<((N1+1:Nat):Int):=oM;have hmx:N1+1<=maxLen:=oM;unfold maxLen at hmx;have i3:IntKind.i64.wrap (N1:Int)=(N1:Int):=by rw[IntKind.wrap_i64];omega
     have i4:(0:Int)<=(N1:Int):=oM;have i5:(N1:Int)<((N1+1:Nat):Int):=oM;have i6:(N1:Int)<=(cap:Int):=oM;have i7:N1<=cap:=oM;clear hbj hK hP hI hD hI' hD' hK5 hB5 c3 hrow htl hown t1 t2 t3 t4 hN hN1 g1 g2 g4 g5 HJ hML;go_upto_region 12 with fail;try rw[hW5]
     clear hW5;go_wp2_with(go_at_call 30;(with_reducible refine(KG.out).mono ?_);rintro e9 w7 ⟨rfl,hb7,s7,vg7,vt7,vd7,tag7,hk7,hs7⟩;have HB7:=A7 hb7;have HK7:=A7 hk7;have HS7:=A7 hs7;clear hb7 hk7 hs7);go_roundw
     case rel=>
      refine⟨HB5.trans HB7.out,s7,vg7,vt7,vd7,tag7,_,HK7.out,HS7.out,HI'.out,?_⟩;have:=HD'.out;omega
     case measure=>
      have h9:msr M B DB w7=CA c.list (goQ c.list {q with todo:=t} p c.list[p]):=by
       have hML:=HM.out;have h8:=HK7.out;rw[<-hML]at h8 |-;exact VG h8 HS7.out
      have h7:=HD'.out;have h6:=HMS.out;omega
    .have e8:s.todo.length=0:=oM;have HFI:Hid (Below E w wr/\wr.rowIs DB 4 M (fun p=>.bool (ndK c.list p))/\wr.cell? ⟨B,5,none⟩=some (.slice (some ⟨DB,0,none⟩) M M)/\wr.rowIs B 90 7 (En #[.pointer (some ⟨C,0,none⟩),.slice (some ⟨GB,0,none⟩) R R,.slice (some ⟨TB,0,none⟩) S S,.slice (some ⟨AB,0,none⟩) M M,.slice (some ⟨NB,0,none⟩) M M,.slice (some ⟨DB,0,none⟩) M M,vd])/\E<=wr.heap.size):=by
      refine⟨hbj,hK.d.congr fun k hk=>?_,hK.b5,hK.b,hK.lt⟩;rw[hP.nd,hI.done (by rw[<-hP.todo];exact List.eq_nil_of_length_eq_zero e8)]
     obtain⟨po,cap,rfl⟩:=AZ hK.td;rw[e8]at b6;have c3:=(HC3.out wr hbj).1;clear hlt hK hP hI hD HJ hbj HMS e8 hML HGO HST HNX;go_wp2;obtain⟨hbf,hDf,c5,hBf,hle⟩:=HFI.out;have HL0:Hid (Below E w wr/\wr.rowIs DB 4 M (fun p=>.bool (ndK c.list p))/\(∃f,wr.rowIs B 90 7 f/\f 5=.slice (some ⟨DB,0,none⟩) M M)/\E<=wr.heap.size/\wr.ownsRow E 40 7 (.slice none 0 0) (Bc (ndK c.list) id c.list 0).length (Au C9 (Bc (ndK c.list) id c.list 0))/\((Bc (ndK c.list) id c.list 0).length=0->(none:Option Addr)=none/\(0:Nat)=0)):=⟨hbf,hDf,⟨_,hBf,rfl⟩,hle,World.ownsRow_nil _ _ _ 7,fun _=>⟨rfl,rfl⟩⟩
     clear hbf hDf c5 hBf hle HFI c3 b6
     go_loopw [67,8] (fun iv lv wr=>∃ (j:Nat) (pl:Option Addr) (ql:Nat),j<=M/\iv=.int .i64 (j:Int)/\lv=.slice pl (Bc (ndK c.list) id c.list j).length ql/\Hid (Below E w wr/\wr.rowIs DB 4 M (fun p=>.bool (ndK c.list p))/\(∃f,wr.rowIs B 90 7 f/\f 5=.slice (some ⟨DB,0,none⟩) M M)/\E<=wr.heap.size/\wr.ownsRow E 40 7 (.slice pl (Bc (ndK c.list) id c.list j).length ql) (Bc (ndK c.list) id c.list j).length (Au C9 (Bc (ndK c.list) id c.list j))/\((Bc (ndK c.list) id c.list j).length=0->pl=none/\ql=0))) (fun iv _ _=>M-(intOf iv).toNat)
     case atStart=>exact⟨0,none,0,gI _,rfl,rfl,HL0.out⟩
     case round=>
      clear HL0;obtain⟨j,pl,ql,hj,rfl,rfl,HJ⟩:=hrel;by_cases hlt:j<M
      .have hjl:j<c.list.length:=by have:=HM.out;omega
       obtain⟨hbj,hD,⟨f,hF,hF5⟩,hEw,hO,hZ0⟩:=HJ.out;have HZ0:=A7 hZ0;clear hZ0;obtain⟨-,hrow⟩:=HC3.out wr hbj;obtain⟨lb,lo,rfl,hcl⟩:=hrow.at hjl;have HID:=A7 (id_prn (ndK c.list) c.list hjl);obtain⟨⟨op,d,a,b,e,n,z⟩,hi⟩:∃i,c.list[j]=i:=⟨_,rfl⟩
       rw[hi]at hcl HID;have y0:=hcl.at 0 (v:=.int .i64 op) rfl;rw[Nat.add_zero]at y0;have y1:=hcl.at 1 (v:=.int .i64 d) rfl;have y2:=hcl.at 2 (v:=.int .i64 a) rfl;have y3:=hcl.at 3 (v:=.int .i64 b) rfl;have y4:=hcl.at 4 (v:=.int .i64 e) rfl;have y5:=hcl.at 5 (v:=.int .i64 n) rfl;have y6:=hcl.at 6 (v:=.int .u32 z) rfl;have llb:lb<wr.heap.size:=A8 y0;have n9:¬lb=wr.heap.size:=oM;have i1:(0:Int)<=(j:Int):=oM;have i2:(j:Int)<(M:Int):=oM;have wi:IntKind.i64.wrap ((j:Int)+1)=((j+1:Nat):Int):=by rw[IntKind.wrap_i64];omega
       obtain⟨V2,hV2⟩:∃V,wr.alloc (.cells #[.int .i64 op,.int .i64 d,.int .i64 a,.int .i64 b,.int .i64 e,.int .i64 n,.int .u32 z] 40)=V:=⟨_,rfl⟩
       have HB2:Hid (Below wr.heap.size wr V2):=by rw[<-hV2];exact A0 _ _
       have hX2:V2.rowIs wr.heap.size 40 7 (UX op d a b e n z):=by rw[<-hV2];exact BS wr _ _
       have x0:V2.cell? ⟨wr.heap.size,0,none⟩=some (.int .i64 op):=hX2.cell (i:=0) dE;have x1:V2.cell? ⟨wr.heap.size,1,none⟩=some (.int .i64 d):=hX2.cell (i:=1) dE;have x2:V2.cell? ⟨wr.heap.size,2,none⟩=some (.int .i64 a):=hX2.cell (i:=2) dE;have x3:V2.cell? ⟨wr.heap.size,3,none⟩=some (.int .i64 b):=hX2.cell (i:=3) dE;have x4:V2.cell? ⟨wr.heap.size,4,none⟩=some (.int .i64 e):=hX2.cell (i:=4) dE;have x5:V2.cell? ⟨wr.heap.size,5,none⟩=some (.int .i64 n):=hX2.cell (i:=5) dE;have x6:V2.cell? ⟨wr.heap.size,6,none⟩=some (.int .u32 z):=hX2.cell (i:=6) dE;have HBV:Hid (Below E w V2):=hbj.trans (HB2.mono hEw);have HDV:=A7 (hD.of_block (HB2.block _ hD.lt));have HFV:=A7 (hF.of_block (HB2.block _ hF.lt));have HOV:=A7 (Ak hO HB2.out);have HEV:Hid (E<=V2.heap.size):=gH hEw HB2.size;have d5:V2.cell? ⟨B,5,none⟩=some (.slice (some ⟨DB,0,none⟩) M M):=by rw[<-hF5];exact HFV.cell (i:=5) dE
       have dd:=HDV.cell hlt;have hln:(Bc (ndK c.list) id c.list j).length<=32768:=by have:=G7 (ndK c.list) id c.list j;omega
       have HF5:=A7 hF5;obtain⟨P0,hP0⟩:∃P,Bc (ndK c.list) id c.list j=P:=⟨_,rfl⟩
       rw[hP0]at HOV hln HID HZ0;rw[hP0];clear hX2 hcl hi llb hbj hD hF hF5 hEw hO hrow HJ hP0;cases hn:ndK c.list j with
       |true=>
        rw[hn]at dd HID;simp only[if_true]at HID;obtain⟨g,cq,w6,hr,hb6,ho6,hoth,hat⟩:=G4 (t:=25) (e:=40) underlying25 Te rF dE HOV.out HEV.out #[.int .i64 op,.int .i64 d,.int .i64 a,.int .i64 b,.int .i64 e,.int .i64 n,.int .u32 z] rfl Sx mL oM 25;have HR:=A7 hr;have HB6:=A7 hb6;have HO6:Hid (w6.ownsRow E 40 7 (.slice (some ⟨g,0,none⟩) (P0.length+1) cq) (P0.length+1) (Au C9 (P0++[⟨op,d,a,b,e,n,z⟩]))):=by
         have e9:Au C9 (P0++[⟨op,d,a,b,e,n,z⟩])=Au C9 P0++[.int .i64 op,.int .i64 d,.int .i64 a,.int .i64 b,.int .i64 e,.int .i64 n,.int .u32 z]:=by simp[Au,C9,rkC]
         show World.ownsRow _ _ _ _ _ _ _;rw[e9];exact ho6
        have HD6:=A7 (HDV.of_block (hoth _ HDV.lt (GQ HOV.out HDV.out dE)));have HF6:=A7 (HFV.of_block (hoth _ HFV.lt (GQ HOV.out HFV.out dE)));obtain⟨PL,hPL⟩:∃k,P0.length+1=k:=⟨_,rfl⟩
        have HPL:Hid (P0.length+1=PL):=hPL;rw[hPL]at HR HO6;clear hr hb6 ho6 hoth hat hn hPL;go_upto_region 17 with fail;try rw[hV2]
        go_wp2_with(at_builtin;refine AO rF _ _ _ rF _ _ _ rF rF HR.out ?_);go_roundw
        case rel=>
         have hPL:=HPL.out;refine⟨j+1,some ⟨g,0,none⟩,cq,oM,gN,?_,HBV.trans HB6.out,HD6.out,⟨f,HF6.out,HF5.out⟩,gH HEV.out HB6.size,?_,fun h9=>?_⟩
         .rw[HID.out,List.length_append];exact congrArg (fun k=>Value.slice _ k _) hPL.symm
         .rw[HID.out,List.length_append,show P0.length+[(⟨op,d,a,b,e,n,z⟩:Ad)].length=PL from hPL];exact HO6.out
         .rw[HID.out,List.length_append]at h9;simp at h9
        case measure=>simp[intOf];omega
       |false=>
        rw[hn]at dd HID;simp only[Bool.false_eq_true,if_false]at HID;clear hn;go_upto_region 17 with fail;try rw[hV2]
        go_wp2;go_roundw
        case rel=>
         refine⟨j+1,pl,ql,oM,gN,by rw[HID.out],HBV.out,HDV.out,⟨f,HFV.out,HF5.out⟩,HEV.out,?_,?_⟩
         .rw[HID.out];exact HOV.out
         .rw[HID.out];exact HZ0.out
        case measure=>simp[intOf];omega
      .have e9:¬ (j:Int)<(M:Int):=oM;have hjn:j=M:=oM;subst hjn;have HE2:Hid (wr.ownsRow E 40 7 (.slice pl (Bc (ndK c.list) id c.list j).length ql) (Bc (ndK c.list) id c.list j).length (Au C9 (Bc (ndK c.list) id c.list j))/\((Bc (ndK c.list) id c.list j).length=0->pl=none/\ql=0)/\Below E w wr):=⟨HJ.2.2.2.2.1,HJ.2.2.2.2.2,HJ.1⟩
       clear hlt HJ;go_wp2;refine bodyPost_ret (by simp[results,results13,go_sem, *];try rfl) rfl ?_;rw[HE.out];exact⟨_,_,rfl,HE2.1,fun h9=>HE2.2.1 (by rw[h9];rfl),HE2.2.2⟩
theorem Ih(p:Nat->Bool)(k:Nat):AA p (k+1)=AA p k+(if p k=true then 1 else 0):=by
 unfold AA;rw[List.range_succ,List.filter_append,List.length_append];congr 1;by_cases h:p k=true
 .simp[h]
 .simp[h]
theorem Ha{p:Nat->Bool}:∀r,(∀s,s<r->p s=true)->AA p r=r
 |0,_=>rfl
 |r+1,h=>by rw[Ih,Ha r (fun s hs=>h s oM),if_pos (h r oM)]
section
variable {K : Nat -> Bool} {f : Ad -> Ad} {l : List Ad}
theorem Qf:∀j,j<=l.length->(Bc K f l j).length=AA K j:=by
 intro j;induction j with
 |zero=>intro _;rfl
 |succ j ih=>
  intro hj;have h:=ih oM;rw[Ih];cases hK:K j with
  |true=>rw[DI oM hK,List.length_append,h];simp
  |false=>rw[Gs hK,h];simp
theorem ZL:∀j,j<=l.length->(∀k,k<l.length->K k=true)->(∀i∈l,f i=i)->Bc K f l j=l.take j:=by
 intro j;induction j with
 |zero=>intro _ _ _;rfl
 |succ j ih=>
  intro hj hK hf;rw[DI oM (hK j oM),ih oM hK hf,hf _ (gD oM),List.take_succ_eq_append_getElem oM]
end
section
variable {c c' : Cd} {K U : Nat -> Bool} {F : Ad -> Ad} {rho : Nat -> Nat}
end
section
variable {c : Cd}
theorem RE{α:Type}{p:Nat->Bool}{l:List α}(h:∀r,r<l.length->p r=true):AU p l=l:=by
 apply List.ext_getElem?;intro t;by_cases ht:t<l.length
 .have h9:=MY (p:=p) ht (h t ht);rw[Ha t (fun s hs=>h s oM)]at h9;exact h9
 .rw[List.getElem?_eq_none (by have:=Hn p l;omega),List.getElem?_eq_none oM]
end
theorem El{w:World}{b b' n n':Nat}{t t':TypeId}{f f':Nat->Value}(h:w.rowIs b t n f)(h':w.rowIs b' t' n' f')(ht:t≠t'):b≠b':=fun e=>by
 subst e;obtain⟨c,hc,-⟩:=h;obtain⟨c',hc',-⟩:=h';rw[hc]at hc';simp only[Option.some.injEq,Obj.cells.injEq]at hc';exact ht hc'.2.1
theorem C3{w:World}{B:Nat}{t t':TypeId}{k n n' b:Nat}{v:Value}{xs:List Value}{f:Nat->Value}(h:w.ownsRow B t k v n xs)(h':w.rowIs b t' n' f)(ht:t≠t'):v.ownBlock≠some b:=by
 exact Zdk
def IZ(offs:List Nat)(val:Nat->Nat)(r:Nat):Bool:=offs.any fun o=>val o==r
theorem VN{offs:List Nat}{j:Nat}(hj:j<offs.length)(val:Nat->Nat)(r:Nat):IZ (offs.take (j+1)) val r=if r=val offs[j]then true else IZ (offs.take j) val r:=by
 unfold IZ;rw[List.take_succ_eq_append_getElem hj,List.any_append];by_cases e:r=val offs[j]
 .rw[if_pos e,e];simp
 .rw[if_neg e];have:(val offs[j]==r)=false:=by simpa using fun q=>e q.symm
  simp[this]
theorem Rt{offs:List Nat}{val:Nat->Nat}{o:Nat}(h:o∈offs):IZ offs val (val o)=true:=List.any_eq_true.2 ⟨o,h,sM⟩
def C1{α:Type}(p:Nat->Bool)(l:List α):Nat->List α
 |0=>[]
 |j+1=>C1 p l j++(match l[j]? with |some x=>if p j then [x]else [] |none=>[])
theorem Fj{α:Type}(p:Nat->Bool){l:List α}{j:Nat}(hj:j<l.length):C1 p l (j+1)=if p j=true then C1 p l j++[l[j]]else C1 p l j:=by
 rw[C1,gB hj];by_cases hp:p j=true
 .simp[hp]
 .simp[hp]
theorem Oc{α:Type}(p:Nat->Bool)(l:List α):∀n,n<=l.length->((List.range n).filter p).filterMap (fun r=>l[r]?)=C1 p l n
 |0,_=>rfl
 |n+1,h=>by
  rw[List.range_succ,List.filter_append,List.filterMap_append,Oc p l n oM,Fj p oM];by_cases hp:p n=true
  .simp[hp,show n<l.length by omega]
  .simp[hp]
theorem LU{α:Type}(p:Nat->Bool)(l:List α):C1 p l l.length=AU p l:=(Oc p l l.length (gF _)).symm
theorem Ir{α:Type}(p:Nat->Bool)(l:List α):∀n,n<=l.length->(C1 p l n).length=AA p n
 |0,_=>rfl
 |n+1,h=>by
  rw[Fj p oM,Ih,<-Ir p l n oM];split<;>simp
def DH(p:Nat->Bool)(j r:Nat):Int:=if r<j/\p r=true then(AA p r:Int)else 0
theorem Ts{p:Nat->Bool}{j:Nat}(hp:p j=true)(r:Nat):DH p (j+1) r=if r=j then(AA p j:Int)else DH p j r:=by
 unfold DH;by_cases e:r=j
 .rw[if_pos e,if_pos ⟨oM,by rw[e];exact hp⟩,e]
 .rw[if_neg e];by_cases h:r<j/\p r=true
  .rw[if_pos h,if_pos ⟨oM,h.2⟩]
  .rw[if_neg h,if_neg (fun q=>h ⟨oM,q.2⟩)]
theorem Zu{p:Nat->Bool}{j:Nat}(hp:p j=false)(r:Nat):DH p (j+1) r=DH p j r:=by
 unfold DH;by_cases h:r<j/\p r=true
 .rw[if_pos h,if_pos ⟨oM,h.2⟩]
 .have h2:¬ (r<j+1/\p r=true):=fun q=>by
   by_cases e:r=j
   .rw[e,hp]at q;cases q.2
   .exact h ⟨oM,q.2⟩
  rw[if_neg h,if_neg h2]
def fJ(offs:List Nat)(val:Nat->Nat)(f:Nat->Value)(j o:Nat):Value:=if o∈offs.take j then .int .i64 (AA (IZ offs val) (val o):Int)else f o
theorem R0{offs:List Nat}{j:Nat}(hj:j<offs.length)(val:Nat->Nat)(f:Nat->Value)(o:Nat):fJ offs val f (j+1) o=if o=offs[j]then .int .i64 (AA (IZ offs val) (val offs[j]):Int)else fJ offs val f j o:=by
 unfold fJ;rw[List.take_succ_eq_append_getElem hj];by_cases e:o=offs[j]
 .rw[if_pos e,if_pos (List.mem_append.2 (.inr (by rw[e];exact List.mem_singleton.2 rfl))),e]
 .rw[if_neg e];by_cases h:o∈offs.take j
  .rw[if_pos h,if_pos (List.mem_append.2 (.inl h))]
  .rw[if_neg h,if_neg (fun q=>(List.mem_append.1 q).elim h (fun q=>e (List.mem_singleton.1 q)))]
theorem fJ_at{offs:List Nat}(hn:offs.Nodup){j:Nat}(hj:j<offs.length)(val:Nat->Nat)(f:Nat->Value):fJ offs val f j offs[j]=f offs[j]:=by
 unfold fJ;rw[if_neg];intro hm;obtain⟨k,hk,e⟩:=List.mem_iff_getElem.1 hm;rw[List.length_take]at hk;rw[List.getElem_take]at e;have:=(List.getElem_inj hn).1 e;omega
structure RnV(E IB K LB N0:Nat)(offs:List Nat)(val:Nat->Nat)(f:Nat->Value)(w w':World):Prop where
 bel:Below E w w'
 nm:w'.rowIs IB 4 K (fun r=>.bool (IZ offs val r))
 li:N0=0\/w'.rowIs LB 40 N0 (fJ offs val f offs.length)
 oth:∀b,b<w.heap.size->b≠IB->b≠LB->w'.heap[b]? =w.heap[b]?
theorem ren_Sl(E:Nat)(w:World)(all:List Sl)(p1:Option Addr)(q1:Nat)(HA:∀v,Below E w v->AV 5 Jf v (.slice p1 all.length q1) all)(offs:List Nat)(val:Nat->Nat)(LB N0:Nat)(f:Nat->Value)(hL:∀o∈offs,o<N0/\f o=.int .i64 (val o:Int)/\val o<all.length)(hLM:N0=0\/w.rowIs LB 40 N0 f)(pf:Option Addr)(qf:Nat)(hF:w.ownsRow E 92 1 (.slice pf offs.length qf) offs.length (DJ LB offs))(IB K:Nat)(hI:w.rowIs IB 4 K (fun _=>.bool false))(hK:all.length<=K)(hE:E<=w.heap.size/\E<=IB/\E<=LB)(hnd:offs.Nodup)(ha:all.length<=16384)(ho:offs.length<=200000):
 Calls prog 16 #[.slice p1 all.length q1,.slice pf offs.length qf,.slice (some ⟨IB,0,none⟩) K K] w fun e w'=>∃pr qr,e=.returned (.slice pr (AU (IZ offs val) all).length qr)/\w'.ownsRow w.heap.size 64 5 (.slice pr (AU (IZ offs val) all).length qr) (AU (IZ offs val) all).length (Au Jf (AU (IZ offs val) all))/\RnV E IB K LB N0 offs val f w w':=by
 have HAA:=A7 HA;have HL:=A7 hL;have HLM:=A7 hLM;have HF:=A7 hF;have HI:=A7 hI;have HEE:=A7 hE;have HND:=A7 hnd;have HO1:Hid (∀j (hj:j<offs.length),∃FB,pf=some ⟨FB,0,none⟩/\(∃c,w.heap[FB]? =some (.cells c 92 (0,0)))/\FB<w.heap.size/\w.cell? ⟨FB,j,none⟩=some (.pointer (some ⟨LB,offs[j],none⟩))):=fun j hj=>by
  exact Zcz
 obtain⟨A,hA⟩:=gA (all.length)
 obtain⟨n,hn⟩:=gA (offs.length)
 have HAL:=A7 hA;have HNL:=A7 hn;simp only[hA]at HAA HL hK ha |-;simp only[hn]at HF ho |-;have m1:=fun v=>PV A oM v;obtain⟨nm,hnm⟩:=gA (IZ offs val)
 have HNM:=A7 hnm;simp only[hnm];obtain⟨H0,hH0⟩:∃H,w.heap.size=H:=⟨_,rfl⟩
 have HH0:=A7 hH0;simp only[hH0]at HEE;rw[hH0];clear HA hL hLM hF hI hE hnd hA hn hH0 hnm;go_enter func16,ntmps16;go_wp2
 go_loopw [17] (fun iv wr=>∃j:Nat,j<=n/\iv=.int .i64 (j:Int)/\Hid (Below E w wr/\wr.rowIs IB 4 K (fun r=>.bool (IZ (offs.take j) val r))/\(∀b,b<H0->b≠IB->wr.heap[b]? =w.heap[b]?)/\H0<=wr.heap.size)) (fun iv _=>n-(intOf iv).toNat)
 case atStart=>
  refine⟨0,gI _,rfl,Below.refl E w,HI.out,fun _ _ _=>rfl,by rw[HH0.out];exact gF _⟩
 case round=>
  obtain⟨j,hj,rfl,HJ⟩:=hrel;by_cases hlt:j<n
  .exact Zaw
  .have e9:¬ (j:Int)<(n:Int):=oM;have hjn:j=offs.length:=by have:=HNL.out;omega
   obtain⟨hbj,hIj,hoth,hsz⟩:=HJ.out;rw[hjn,List.take_length]at hIj;have i0:(0:Int)<=(A:Int):=oM;obtain⟨V,hV⟩:=gA (wr.alloc (.cells (madeCells #[.int .i64 0] A) 3))
   have HBV:Hid (Below wr.heap.size wr V):=by rw[<-hV];exact A0 _ _
   obtain⟨XB,hXB⟩:∃X,wr.heap.size=X:=⟨_,rfl⟩
   have hXr:V.rowIs XB 3 A (fun _=>.int .i64 0):=by rw[<-hV,<-hXB];exact World.rowIs_made wr (.int .i64 0) A 3
   rw[HNM.out]at hIj;have HK0:Hid (Below E w V/\V.rowIs IB 4 K (fun r=>.bool (nm r))/\(∀b,b<H0->b≠IB->V.heap[b]? =w.heap[b]?)/\H0<=XB/\H0<=V.heap.size/\V.rowIs XB 3 A (fun r=>.int .i64 (DH nm 0 r))/\V.ownsRow H0 64 5 (.slice none 0 0) (C1 nm all 0).length (Au Jf (C1 nm all 0))):=by
    have hE:=HEE.1;refine⟨hbj.trans (HBV.mono (gH hE hsz)),hIj.of_block (HBV.block _ hIj.lt),fun b hb hne=>(HBV.block b (Nat.lt_of_lt_of_le hb hsz)).trans (hoth b hb hne),by rw[<-hXB];exact hsz,gH hsz HBV.size,hXr.congr fun r hr=>?_,World.ownsRow_nil _ _ _ 5⟩;unfold DH;rw[if_neg oM]
   clear hlt hjn hbj hIj hoth hsz hXr HJ HBV;go_wp2;try rw[hV]
   try rw[hXB]
   clear hV hXB
   go_loopw [32,9] (fun iv lv wr=>∃ (j:Nat) (pl:Option Addr) (ql:Nat),j<=A/\iv=.int .i64 (j:Int)/\lv=.slice pl (C1 nm all j).length ql/\Hid (Below E w wr/\wr.rowIs IB 4 K (fun r=>.bool (nm r))/\(∀b,b<H0->b≠IB->wr.heap[b]? =w.heap[b]?)/\H0<=XB/\H0<=wr.heap.size/\wr.rowIs XB 3 A (fun r=>.int .i64 (DH nm j r))/\wr.ownsRow H0 64 5 (.slice pl (C1 nm all j).length ql) (C1 nm all j).length (Au Jf (C1 nm all j)))) (fun iv _ _=>A-(intOf iv).toNat)
   case atStart=>exact⟨0,none,0,gI _,rfl,rfl,HK0.out⟩
   case round=>
    clear HK0;obtain⟨j,pl,ql,hj,rfl,rfl,HJ⟩:=hrel;by_cases hlt:j<A
    .have hjl:j<all.length:=by have:=HAL.out;omega
     obtain⟨hbj,hIj,hoth,hX0,hsz,hXj,hO⟩:=HJ.out;obtain⟨lb,lo,rfl,hcl⟩:=(HAA.out wr hbj).at hjl;have HPN:=A7 (Fj nm hjl);have hpl:(C1 nm all j).length=AA nm j:=Ir nm all j oM;have hcu:AA nm j<=16384:=by have h9:AA nm j<=j:=gH (List.length_filter_le _ _) sM;omega
     obtain⟨⟨⟨kd,pr⟩,kp,bt,it⟩,hi⟩:∃i,all[j]=i:=⟨_,rfl⟩
     rw[hi]at hcl HPN;have y0:=hcl.at 0 (v:=.int .i64 kd) rfl;rw[Nat.add_zero]at y0;have y1:=hcl.at 1 (v:=.int .i64 pr) rfl;have y2:=hcl.at 2 (v:=.bool kp) rfl;have y3:=hcl.at 3 (v:=.int .u32 bt) rfl;have y4:=hcl.at 4 (v:=.int .i64 it) rfl;have llb:lb<wr.heap.size:=A8 y0;have n9:¬lb=wr.heap.size:=oM;have i1:(0:Int)<=(j:Int):=oM;have i2:(j:Int)<(A:Int):=oM;have i3:(j:Int)<(K:Int):=oM;have wi:IntKind.i64.wrap ((j:Int)+1)=((j+1:Nat):Int):=by rw[IntKind.wrap_i64];omega
     obtain⟨V2,hV2⟩:∃V,wr.alloc (.cells #[.int .i64 kd,.int .i64 pr,.bool kp,.int .u32 bt,.int .i64 it] 64)=V:=⟨_,rfl⟩
     have HB2:Hid (Below wr.heap.size wr V2):=by rw[<-hV2];exact A0 _ _
     have hX2:V2.rowIs wr.heap.size 64 5 (En #[.int .i64 kd,.int .i64 pr,.bool kp,.int .u32 bt,.int .i64 it]):=by rw[<-hV2];exact BS wr _ _
     have x0:V2.cell? ⟨wr.heap.size,0,none⟩=some (.int .i64 kd):=hX2.cell (i:=0) dE;have x1:V2.cell? ⟨wr.heap.size,1,none⟩=some (.int .i64 pr):=hX2.cell (i:=1) dE;have x2:V2.cell? ⟨wr.heap.size,2,none⟩=some (.bool kp):=hX2.cell (i:=2) dE;have x3:V2.cell? ⟨wr.heap.size,3,none⟩=some (.int .u32 bt):=hX2.cell (i:=3) dE;have x4:V2.cell? ⟨wr.heap.size,4,none⟩=some (.int .i64 it):=hX2.cell (i:=4) dE;have HXB2:=A7 hX2;have hI2:=hIj.of_block (HB2.block _ hIj.lt);have hXJ2:=hXj.of_block (HB2.block _ hXj.lt);have hO2:=Ak hO HB2.out;have hd:=hI2.cell (show j<K by omega);have hn2:=hXJ2.cell hlt;have hf2:=hXJ2.frozen j;have HBV:Hid (Below E w V2):=hbj.trans (HB2.mono (gH HEE.1 hsz));have HOT:Hid (∀b,b<H0->b≠IB->V2.heap[b]? =w.heap[b]?):=fun b hb hne=>(HB2.block b (Nat.lt_of_lt_of_le hb hsz)).trans (hoth b hb hne);have HS2:Hid (H0<=XB/\H0<=V2.heap.size):=⟨hX0,gH hsz HB2.size⟩
     have HI2:=A7 hI2;have HX2:=A7 hXJ2;have HO2:=A7 hO2;obtain⟨P0,hP0⟩:∃P,C1 nm all j=P:=⟨_,rfl⟩
     rw[hP0]at HO2 HPN hpl;rw[hP0];have HPL:=A7 hpl;have HCU:=A7 hcu;clear hbj hIj hoth hX0 hsz hXj hO hcl hi llb hX2 hI2 hXJ2 hO2 HJ hP0 hpl hcu;cases hb:nm j with
     |true=>
      rw[hb]at hd HPN;simp only[if_true]at HPN;obtain⟨W3,hW3⟩:∃W,V2.setCell ⟨XB,j,none⟩ (.int .i64 (P0.length:Int))=W:=⟨_,rfl⟩
      have nXB:XB≠V2.heap.size:=by have:=HX2.lt;omega
      have hOX:=C3 HO2.out HX2.out dE;have hO3:=Ac HO2.out (w':=W3) (fun g hg=>by rw[<-hW3];exact gE (fun(q:g=XB)=>hOX (by rw[<-q];exact hg)));have hX3:W3.rowIs XB 3 A (fun r=>.int .i64 (DH nm (j+1) r)):=by
       exact Zfh
      have hI3:W3.rowIs IB 4 K (fun r=>.bool (nm r)):=by rw[<-hW3];exact HI2.setOther (a:=⟨XB,j,none⟩) (El HI2.out HX2.out dE) _
      have hB3:W3.rowIs wr.heap.size 64 5 (En #[.int .i64 kd,.int .i64 pr,.bool kp,.int .u32 bt,.int .i64 it]):=by rw[<-hW3];exact HXB2.setOther (a:=⟨XB,j,none⟩) (El HXB2.out HX2.out dE) _
      have hBW:Below E w W3:=by rw[<-hW3];exact HBV.setCell (gH HEE.1 HS2.1) _
      have hOT3:∀b,b<H0->b≠IB->W3.heap[b]? =w.heap[b]? :=fun b hb' hne=>by rw[<-hW3];exact(gE (fun(q:b=XB)=>by have:=HS2.1;omega)).trans (HOT.out b hb' hne)
      have hS3:H0<=W3.heap.size:=by rw[<-hW3];simpa using HS2.2
      obtain⟨g,cq,w6,hr,hb6,ho6,hoth6,hat⟩:=G4 (t:=24) (e:=64) underlying24 Ti rF dE hO3 hS3 #[.int .i64 kd,.int .i64 pr,.bool kp,.int .u32 bt,.int .i64 it] rfl Sx Zhr (by have:=HPL.out;have:=HCU.out;omega) 24;have z0:W3.cell? ⟨wr.heap.size,0,none⟩=some (.int .i64 kd):=hB3.cell (i:=0) dE;have z1:W3.cell? ⟨wr.heap.size,1,none⟩=some (.int .i64 pr):=hB3.cell (i:=1) dE;have z2:W3.cell? ⟨wr.heap.size,2,none⟩=some (.bool kp):=hB3.cell (i:=2) dE;have z3:W3.cell? ⟨wr.heap.size,3,none⟩=some (.int .u32 bt):=hB3.cell (i:=3) dE;have z4:W3.cell? ⟨wr.heap.size,4,none⟩=some (.int .i64 it):=hB3.cell (i:=4) dE;have HR:=A7 hr;have HN6:Hid (Below E w w6/\w6.rowIs IB 4 K (fun r=>.bool (nm r))/\(∀b,b<H0->b≠IB->w6.heap[b]? =w.heap[b]?)/\H0<=XB/\H0<=w6.heap.size/\w6.rowIs XB 3 A (fun r=>.int .i64 (DH nm (j+1) r))/\w6.ownsRow H0 64 5 (.slice (some ⟨g,0,none⟩) (P0.length+1) cq) (P0.length+1) (Au Jf (P0++[(⟨⟨kd,pr⟩,kp,bt,it⟩:Sl)]))):=by
       refine⟨hBW.trans (hb6.mono HEE.1),hI3.of_block (hoth6 _ hI3.lt (C3 hO3 hI3 dE)),fun b hb' hne=>(hb6.block b hb').trans (hOT3 b hb' hne),HS2.1,gH hS3 hb6.size,hX3.of_block (hoth6 _ hX3.lt (C3 hO3 hX3 dE)),?_⟩;have e9:Au Jf (P0++[(⟨⟨kd,pr⟩,kp,bt,it⟩:Sl)])=Au Jf P0++[.int .i64 kd,.int .i64 pr,.bool kp,.int .u32 bt,.int .i64 it]:=by simp[Au,Jf]
       rw[e9];exact ho6
      obtain⟨PL,hPL⟩:∃k,P0.length+1=k:=⟨_,rfl⟩
      have HPL1:=A7 hPL;rw[hPL]at HR HN6;clear hr hb6 ho6 hoth6 hat hb hPL hO3 hX3 hI3 hB3 hBW hOT3 hS3 hOX nXB;go_upto_region 11 with fail;try rw[hV2]
      go_upto_region 13 with fail;try rw[hW3]
      go_wp2_with(at_builtin;refine AO rF _ _ _ rF _ _ _ rF rF HR.out ?_);go_roundw
      case rel=>
       refine⟨j+1,some ⟨g,0,none⟩,cq,oM,gN,?_,?_⟩
       .rw[HPN.out,List.length_append];exact congrArg (fun k=>Value.slice _ k _) HPL1.symm
       .rw[HPN.out,List.length_append,show P0.length+[(⟨⟨kd,pr⟩,kp,bt,it⟩:Sl)].length=PL from HPL1.out];exact HN6.out
      case measure=>simp[intOf];omega
     |false=>
      exact Zct
    .have e8:¬ (j:Int)<(A:Int):=oM;have hjn:j=A:=oM;subst hjn;obtain⟨hbj,hIj,hoth,hX0,hsz,hXj,hO⟩:=HJ.out;have HPU:Hid (C1 nm all j=AU nm all):=by show _=_;rw[<-LU,HAL.out]
     rw[HPU.out]at hO;rw[HPU.out];obtain⟨PN,hPN⟩:∃k,(AU nm all).length=k:=⟨_,rfl⟩
     have HPNL:=A7 hPN;rw[hPN]at hO;rw[hPN];have HK0:Hid (Below E w wr/\wr.rowIs IB 4 K (fun r=>.bool (nm r))/\(∀b,b<H0->b≠IB->b≠LB->wr.heap[b]? =w.heap[b]?)/\H0<=XB/\wr.rowIs XB 3 j (fun r=>.int .i64 (DH nm j r))/\wr.ownsRow H0 64 5 (.slice pl PN ql) PN (Au Jf (AU nm all))/\(N0=0\/wr.rowIs LB 40 N0 (fJ offs val f 0))):=by
      exact Zdo
     clear hlt hbj hIj hoth hX0 hsz hXj hO HJ hPN HPU m1;go_wp2
     go_loopw [53] (fun iv wr=>∃m:Nat,m<=n/\iv=.int .i64 (m:Int)/\Hid (Below E w wr/\wr.rowIs IB 4 K (fun r=>.bool (nm r))/\(∀b,b<H0->b≠IB->b≠LB->wr.heap[b]? =w.heap[b]?)/\H0<=XB/\wr.rowIs XB 3 j (fun r=>.int .i64 (DH nm j r))/\wr.ownsRow H0 64 5 (.slice pl PN ql) PN (Au Jf (AU nm all))/\(N0=0\/wr.rowIs LB 40 N0 (fJ offs val f m)))) (fun iv _=>n-(intOf iv).toNat)
     case atStart=>exact⟨0,gI _,rfl,HK0.out⟩
     case round=>
      clear HK0;obtain⟨m,hm,rfl,HJ⟩:=hrel;by_cases hlt:m<n
      .have hml:m<offs.length:=by have:=HNL.out;omega
       obtain⟨hbj,hIj,hoth,hX0,hXj,hO,hLj⟩:=HJ.out;obtain⟨FB,rfl,⟨cF,hcF⟩,lF,hc⟩:=HO1.out m hml;obtain⟨l1,l2,l3⟩:=HL.out _ (gD hml);have hLr:wr.rowIs LB 40 N0 (fJ offs val f m):=hLj.resolve_left oM;have hLw:w.rowIs LB 40 N0 f:=HLM.resolve_left oM;have nFI:FB≠IB:=fun e=>by
        obtain⟨c,hc',-⟩:=HI.out;exact Zci
       have nFL:FB≠LB:=fun e=>by
        obtain⟨c,hc',-⟩:=hLw;exact Zci
       have h0:=HH0.out;have x0:wr.cell? ⟨FB,m,none⟩=some (.pointer (some ⟨LB,offs[m],none⟩)):=(gC (a:=⟨FB,m,none⟩) (hoth FB oM nFI nFL)).trans hc;have x1:wr.cell? ⟨LB,offs[m],none⟩=some (.int .i64 (val offs[m]:Int)):=by
        rw[<-l2,<-fJ_at HND.out hml val f];exact hLr.cell l1
       have x2:=hLr.frozen offs[m];have hnv:DH nm j (val offs[m])=(AA nm (val offs[m]):Int):=by
        unfold DH;rw[if_pos ⟨l3,by rw[<-HNM.out];exact Rt (gD hml)⟩]
       have x3:=hXj.cell l3;rw[hnv]at x3;have HFN:=A7 (fun o=>R0 hml val f o);have HLX:Hid (LB≠XB/\LB≠IB/\E<=LB):=⟨El hLr hXj dE,El hLr hIj dE,HEE.2.2⟩
       obtain⟨o,ho'⟩:=gA (offs[m])
       rw[ho']at x0 x1 x2 x3 l3 HFN;obtain⟨r,hr⟩:=gA (val o)
       rw[hr]at x1 x3 l3;simp only[hr,HNM.out]at HFN;obtain⟨cr,hcr⟩:∃c,AA nm r=c:=⟨_,rfl⟩
       rw[hcr]at x3;simp only[hcr]at HFN;have i1:(0:Int)<=(m:Int):=oM;have i2:(m:Int)<(n:Int):=oM;have i3:(0:Int)<=(r:Int):=oM;have i4:(r:Int)<(j:Int):=oM;have wi:IntKind.i64.wrap ((m:Int)+1)=((m+1:Nat):Int):=by rw[IntKind.wrap_i64];omega
       have HNX:Hid (Below E w (wr.setCell ⟨LB,o,none⟩ (.int .i64 (cr:Int)))/\(wr.setCell ⟨LB,o,none⟩ (.int .i64 (cr:Int))).rowIs IB 4 K (fun r=>.bool (nm r))/\(∀b,b<H0->b≠IB->b≠LB->(wr.setCell ⟨LB,o,none⟩ (.int .i64 (cr:Int))).heap[b]? =w.heap[b]?)/\H0<=XB/\(wr.setCell ⟨LB,o,none⟩ (.int .i64 (cr:Int))).rowIs XB 3 j (fun r=>.int .i64 (DH nm j r))/\(wr.setCell ⟨LB,o,none⟩ (.int .i64 (cr:Int))).ownsRow H0 64 5 (.slice pl PN ql) PN (Au Jf (AU nm all))/\(N0=0\/(wr.setCell ⟨LB,o,none⟩ (.int .i64 (cr:Int))).rowIs LB 40 N0 (fJ offs val f (m+1)))):=by
        exact Zcq
       exact Zej
      .have e7:¬ (m:Int)<(n:Int):=oM;have hmn:m=offs.length:=by have:=HNL.out;omega
       have HFI:Hid (wr.ownsRow H0 64 5 (.slice pl PN ql) PN (Au Jf (AU nm all))/\RnV E IB K LB N0 offs val f w wr):=by
        exact Zev
       have HPNL':=HPNL;clear hlt HJ hmn;go_wp2;refine bodyPost_ret (by simp[results,results16,go_sem, *];try rfl) rfl ?_;exact Zfn
theorem ren_Ty(E:Nat)(w:World)(all:List Ty)(p1:Option Addr)(q1:Nat)(HA:∀v,Below E w v->AV 2 J6 v (.slice p1 all.length q1) all)(offs:List Nat)(val:Nat->Nat)(LB N0:Nat)(f:Nat->Value)(hL:∀o∈offs,o<N0/\f o=.int .i64 (val o:Int)/\val o<all.length)(hLM:N0=0\/w.rowIs LB 40 N0 f)(pf:Option Addr)(qf:Nat)(hF:w.ownsRow E 92 1 (.slice pf offs.length qf) offs.length (DJ LB offs))(IB K:Nat)(hI:w.rowIs IB 4 K (fun _=>.bool false))(hK:all.length<=K)(hE:E<=w.heap.size/\E<=IB/\E<=LB)(hnd:offs.Nodup)(ha:all.length<=16384)(ho:offs.length<=200000):
 Calls prog 14 #[.slice p1 all.length q1,.slice pf offs.length qf,.slice (some ⟨IB,0,none⟩) K K] w fun e w'=>∃pr qr,e=.returned (.slice pr (AU (IZ offs val) all).length qr)/\w'.ownsRow w.heap.size 59 2 (.slice pr (AU (IZ offs val) all).length qr) (AU (IZ offs val) all).length (Au J6 (AU (IZ offs val) all))/\RnV E IB K LB N0 offs val f w w':=by
 have HAA:=A7 HA;have HL:=A7 hL;have HLM:=A7 hLM;have HF:=A7 hF;have HI:=A7 hI;have HEE:=A7 hE;have HND:=A7 hnd;have HO1:Hid (∀j (hj:j<offs.length),∃FB,pf=some ⟨FB,0,none⟩/\(∃c,w.heap[FB]? =some (.cells c 92 (0,0)))/\FB<w.heap.size/\w.cell? ⟨FB,j,none⟩=some (.pointer (some ⟨LB,offs[j],none⟩))):=fun j hj=>by
  exact Zcz
 obtain⟨A,hA⟩:=gA (all.length)
 obtain⟨n,hn⟩:=gA (offs.length)
 have HAL:=A7 hA;have HNL:=A7 hn;simp only[hA]at HAA HL hK ha |-;simp only[hn]at HF ho |-;have m1:=fun v=>PV A oM v;obtain⟨nm,hnm⟩:=gA (IZ offs val)
 have HNM:=A7 hnm;simp only[hnm];obtain⟨H0,hH0⟩:∃H,w.heap.size=H:=⟨_,rfl⟩
 have HH0:=A7 hH0;simp only[hH0]at HEE;rw[hH0];clear HA hL hLM hF hI hE hnd hA hn hH0 hnm;go_enter func14,ntmps14;go_wp2
 go_loopw [17] (fun iv wr=>∃j:Nat,j<=n/\iv=.int .i64 (j:Int)/\Hid (Below E w wr/\wr.rowIs IB 4 K (fun r=>.bool (IZ (offs.take j) val r))/\(∀b,b<H0->b≠IB->wr.heap[b]? =w.heap[b]?)/\H0<=wr.heap.size)) (fun iv _=>n-(intOf iv).toNat)
 case atStart=>
  refine⟨0,gI _,rfl,Below.refl E w,HI.out,fun _ _ _=>rfl,by rw[HH0.out];exact gF _⟩
 case round=>
  obtain⟨j,hj,rfl,HJ⟩:=hrel;by_cases hlt:j<n
  .exact Zaw
  .have e9:¬ (j:Int)<(n:Int):=oM;have hjn:j=offs.length:=by have:=HNL.out;omega
   obtain⟨hbj,hIj,hoth,hsz⟩:=HJ.out;rw[hjn,List.take_length]at hIj;have i0:(0:Int)<=(A:Int):=oM;obtain⟨V,hV⟩:=gA (wr.alloc (.cells (madeCells #[.int .i64 0] A) 3))
   have HBV:Hid (Below wr.heap.size wr V):=by rw[<-hV];exact A0 _ _
   obtain⟨XB,hXB⟩:∃X,wr.heap.size=X:=⟨_,rfl⟩
   have hXr:V.rowIs XB 3 A (fun _=>.int .i64 0):=by rw[<-hV,<-hXB];exact World.rowIs_made wr (.int .i64 0) A 3
   rw[HNM.out]at hIj;have HK0:Hid (Below E w V/\V.rowIs IB 4 K (fun r=>.bool (nm r))/\(∀b,b<H0->b≠IB->V.heap[b]? =w.heap[b]?)/\H0<=XB/\H0<=V.heap.size/\V.rowIs XB 3 A (fun r=>.int .i64 (DH nm 0 r))/\V.ownsRow H0 59 2 (.slice none 0 0) (C1 nm all 0).length (Au J6 (C1 nm all 0))):=by
    have hE:=HEE.1;refine⟨hbj.trans (HBV.mono (gH hE hsz)),hIj.of_block (HBV.block _ hIj.lt),fun b hb hne=>(HBV.block b (Nat.lt_of_lt_of_le hb hsz)).trans (hoth b hb hne),by rw[<-hXB];exact hsz,gH hsz HBV.size,hXr.congr fun r hr=>?_,World.ownsRow_nil _ _ _ 2⟩;unfold DH;rw[if_neg oM]
   clear hlt hjn hbj hIj hoth hsz hXr HJ HBV;go_wp2;try rw[hV]
   try rw[hXB]
   clear hV hXB
   go_loopw [32,9] (fun iv lv wr=>∃ (j:Nat) (pl:Option Addr) (ql:Nat),j<=A/\iv=.int .i64 (j:Int)/\lv=.slice pl (C1 nm all j).length ql/\Hid (Below E w wr/\wr.rowIs IB 4 K (fun r=>.bool (nm r))/\(∀b,b<H0->b≠IB->wr.heap[b]? =w.heap[b]?)/\H0<=XB/\H0<=wr.heap.size/\wr.rowIs XB 3 A (fun r=>.int .i64 (DH nm j r))/\wr.ownsRow H0 59 2 (.slice pl (C1 nm all j).length ql) (C1 nm all j).length (Au J6 (C1 nm all j)))) (fun iv _ _=>A-(intOf iv).toNat)
   case atStart=>exact⟨0,none,0,gI _,rfl,rfl,HK0.out⟩
   case round=>
    clear HK0;obtain⟨j,pl,ql,hj,rfl,rfl,HJ⟩:=hrel;by_cases hlt:j<A
    .have hjl:j<all.length:=by have:=HAL.out;omega
     obtain⟨hbj,hIj,hoth,hX0,hsz,hXj,hO⟩:=HJ.out;obtain⟨lb,lo,rfl,hcl⟩:=(HAA.out wr hbj).at hjl;have HPN:=A7 (Fj nm hjl);have hpl:(C1 nm all j).length=AA nm j:=Ir nm all j oM;have hcu:AA nm j<=16384:=by have h9:AA nm j<=j:=gH (List.length_filter_le _ _) sM;omega
     obtain⟨⟨kd,pr⟩,hi⟩:∃i,all[j]=i:=⟨_,rfl⟩
     rw[hi]at hcl HPN;have y0:=hcl.at 0 (v:=.int .i64 kd) rfl;rw[Nat.add_zero]at y0;have y1:=hcl.at 1 (v:=.int .i64 pr) rfl;have llb:lb<wr.heap.size:=A8 y0;have n9:¬lb=wr.heap.size:=oM;have i1:(0:Int)<=(j:Int):=oM;have i2:(j:Int)<(A:Int):=oM;have i3:(j:Int)<(K:Int):=oM;have wi:IntKind.i64.wrap ((j:Int)+1)=((j+1:Nat):Int):=by rw[IntKind.wrap_i64];omega
     obtain⟨V2,hV2⟩:∃V,wr.alloc (.cells #[.int .i64 kd,.int .i64 pr] 59)=V:=⟨_,rfl⟩
     have HB2:Hid (Below wr.heap.size wr V2):=by rw[<-hV2];exact A0 _ _
     have hX2:V2.rowIs wr.heap.size 59 2 (En #[.int .i64 kd,.int .i64 pr]):=by rw[<-hV2];exact BS wr _ _
     have x0:V2.cell? ⟨wr.heap.size,0,none⟩=some (.int .i64 kd):=hX2.cell (i:=0) dE;have x1:V2.cell? ⟨wr.heap.size,1,none⟩=some (.int .i64 pr):=hX2.cell (i:=1) dE;have HXB2:=A7 hX2;have hI2:=hIj.of_block (HB2.block _ hIj.lt);have hXJ2:=hXj.of_block (HB2.block _ hXj.lt);have hO2:=Ak hO HB2.out;have hd:=hI2.cell (show j<K by omega);have hn2:=hXJ2.cell hlt;have hf2:=hXJ2.frozen j;have HBV:Hid (Below E w V2):=hbj.trans (HB2.mono (gH HEE.1 hsz));have HOT:Hid (∀b,b<H0->b≠IB->V2.heap[b]? =w.heap[b]?):=fun b hb hne=>(HB2.block b (Nat.lt_of_lt_of_le hb hsz)).trans (hoth b hb hne);have HS2:Hid (H0<=XB/\H0<=V2.heap.size):=⟨hX0,gH hsz HB2.size⟩
     have HI2:=A7 hI2;have HX2:=A7 hXJ2;have HO2:=A7 hO2;obtain⟨P0,hP0⟩:∃P,C1 nm all j=P:=⟨_,rfl⟩
     rw[hP0]at HO2 HPN hpl;rw[hP0];have HPL:=A7 hpl;have HCU:=A7 hcu;clear hbj hIj hoth hX0 hsz hXj hO hcl hi llb hX2 hI2 hXJ2 hO2 HJ hP0 hpl hcu;cases hb:nm j with
     |true=>
      rw[hb]at hd HPN;simp only[if_true]at HPN;obtain⟨W3,hW3⟩:∃W,V2.setCell ⟨XB,j,none⟩ (.int .i64 (P0.length:Int))=W:=⟨_,rfl⟩
      have nXB:XB≠V2.heap.size:=by have:=HX2.lt;omega
      have hOX:=C3 HO2.out HX2.out dE;have hO3:=Ac HO2.out (w':=W3) (fun g hg=>by rw[<-hW3];exact gE (fun(q:g=XB)=>hOX (by rw[<-q];exact hg)));have hX3:W3.rowIs XB 3 A (fun r=>.int .i64 (DH nm (j+1) r)):=by
       exact Zfh
      have hI3:W3.rowIs IB 4 K (fun r=>.bool (nm r)):=by rw[<-hW3];exact HI2.setOther (a:=⟨XB,j,none⟩) (El HI2.out HX2.out dE) _
      have hB3:W3.rowIs wr.heap.size 59 2 (En #[.int .i64 kd,.int .i64 pr]):=by rw[<-hW3];exact HXB2.setOther (a:=⟨XB,j,none⟩) (El HXB2.out HX2.out dE) _
      have hBW:Below E w W3:=by rw[<-hW3];exact HBV.setCell (gH HEE.1 HS2.1) _
      have hOT3:∀b,b<H0->b≠IB->W3.heap[b]? =w.heap[b]? :=fun b hb' hne=>by rw[<-hW3];exact(gE (fun(q:b=XB)=>by have:=HS2.1;omega)).trans (HOT.out b hb' hne)
      have hS3:H0<=W3.heap.size:=by rw[<-hW3];simpa using HS2.2
      obtain⟨g,cq,w6,hr,hb6,ho6,hoth6,hat⟩:=G4 (t:=23) (e:=59) underlying23 Tj rF dE hO3 hS3 #[.int .i64 kd,.int .i64 pr] rfl Sx Zhr (by have:=HPL.out;have:=HCU.out;omega) 23;have z0:W3.cell? ⟨wr.heap.size,0,none⟩=some (.int .i64 kd):=hB3.cell (i:=0) dE;have z1:W3.cell? ⟨wr.heap.size,1,none⟩=some (.int .i64 pr):=hB3.cell (i:=1) dE;have HR:=A7 hr;have HN6:Hid (Below E w w6/\w6.rowIs IB 4 K (fun r=>.bool (nm r))/\(∀b,b<H0->b≠IB->w6.heap[b]? =w.heap[b]?)/\H0<=XB/\H0<=w6.heap.size/\w6.rowIs XB 3 A (fun r=>.int .i64 (DH nm (j+1) r))/\w6.ownsRow H0 59 2 (.slice (some ⟨g,0,none⟩) (P0.length+1) cq) (P0.length+1) (Au J6 (P0++[(⟨kd,pr⟩:Ty)]))):=by
       refine⟨hBW.trans (hb6.mono HEE.1),hI3.of_block (hoth6 _ hI3.lt (C3 hO3 hI3 dE)),fun b hb' hne=>(hb6.block b hb').trans (hOT3 b hb' hne),HS2.1,gH hS3 hb6.size,hX3.of_block (hoth6 _ hX3.lt (C3 hO3 hX3 dE)),?_⟩;have e9:Au J6 (P0++[(⟨kd,pr⟩:Ty)])=Au J6 P0++[.int .i64 kd,.int .i64 pr]:=by simp[Au,J6]
       rw[e9];exact ho6
      obtain⟨PL,hPL⟩:∃k,P0.length+1=k:=⟨_,rfl⟩
      have HPL1:=A7 hPL;rw[hPL]at HR HN6;clear hr hb6 ho6 hoth6 hat hb hPL hO3 hX3 hI3 hB3 hBW hOT3 hS3 hOX nXB;go_upto_region 11 with fail;try rw[hV2]
      go_upto_region 13 with fail;try rw[hW3]
      go_wp2_with(at_builtin;refine AO rF _ _ _ rF _ _ _ rF rF HR.out ?_);go_roundw
      case rel=>
       refine⟨j+1,some ⟨g,0,none⟩,cq,oM,gN,?_,?_⟩
       .rw[HPN.out,List.length_append];exact congrArg (fun k=>Value.slice _ k _) HPL1.symm
       .rw[HPN.out,List.length_append,show P0.length+[(⟨kd,pr⟩:Ty)].length=PL from HPL1.out];exact HN6.out
      case measure=>simp[intOf];omega
     |false=>
      exact Zct
    .have e8:¬ (j:Int)<(A:Int):=oM;have hjn:j=A:=oM;subst hjn;obtain⟨hbj,hIj,hoth,hX0,hsz,hXj,hO⟩:=HJ.out;have HPU:Hid (C1 nm all j=AU nm all):=by show _=_;rw[<-LU,HAL.out]
     rw[HPU.out]at hO;rw[HPU.out];obtain⟨PN,hPN⟩:∃k,(AU nm all).length=k:=⟨_,rfl⟩
     have HPNL:=A7 hPN;rw[hPN]at hO;rw[hPN];have HK0:Hid (Below E w wr/\wr.rowIs IB 4 K (fun r=>.bool (nm r))/\(∀b,b<H0->b≠IB->b≠LB->wr.heap[b]? =w.heap[b]?)/\H0<=XB/\wr.rowIs XB 3 j (fun r=>.int .i64 (DH nm j r))/\wr.ownsRow H0 59 2 (.slice pl PN ql) PN (Au J6 (AU nm all))/\(N0=0\/wr.rowIs LB 40 N0 (fJ offs val f 0))):=by
      exact Zdo
     clear hlt hbj hIj hoth hX0 hsz hXj hO HJ hPN HPU m1;go_wp2
     go_loopw [53] (fun iv wr=>∃m:Nat,m<=n/\iv=.int .i64 (m:Int)/\Hid (Below E w wr/\wr.rowIs IB 4 K (fun r=>.bool (nm r))/\(∀b,b<H0->b≠IB->b≠LB->wr.heap[b]? =w.heap[b]?)/\H0<=XB/\wr.rowIs XB 3 j (fun r=>.int .i64 (DH nm j r))/\wr.ownsRow H0 59 2 (.slice pl PN ql) PN (Au J6 (AU nm all))/\(N0=0\/wr.rowIs LB 40 N0 (fJ offs val f m)))) (fun iv _=>n-(intOf iv).toNat)
     case atStart=>exact⟨0,gI _,rfl,HK0.out⟩
     case round=>
      clear HK0;obtain⟨m,hm,rfl,HJ⟩:=hrel;by_cases hlt:m<n
      .have hml:m<offs.length:=by have:=HNL.out;omega
       obtain⟨hbj,hIj,hoth,hX0,hXj,hO,hLj⟩:=HJ.out;obtain⟨FB,rfl,⟨cF,hcF⟩,lF,hc⟩:=HO1.out m hml;obtain⟨l1,l2,l3⟩:=HL.out _ (gD hml);have hLr:wr.rowIs LB 40 N0 (fJ offs val f m):=hLj.resolve_left oM;have hLw:w.rowIs LB 40 N0 f:=HLM.resolve_left oM;have nFI:FB≠IB:=fun e=>by
        obtain⟨c,hc',-⟩:=HI.out;exact Zci
       have nFL:FB≠LB:=fun e=>by
        obtain⟨c,hc',-⟩:=hLw;exact Zci
       have h0:=HH0.out;have x0:wr.cell? ⟨FB,m,none⟩=some (.pointer (some ⟨LB,offs[m],none⟩)):=(gC (a:=⟨FB,m,none⟩) (hoth FB oM nFI nFL)).trans hc;have x1:wr.cell? ⟨LB,offs[m],none⟩=some (.int .i64 (val offs[m]:Int)):=by
        rw[<-l2,<-fJ_at HND.out hml val f];exact hLr.cell l1
       have x2:=hLr.frozen offs[m];have hnv:DH nm j (val offs[m])=(AA nm (val offs[m]):Int):=by
        unfold DH;rw[if_pos ⟨l3,by rw[<-HNM.out];exact Rt (gD hml)⟩]
       have x3:=hXj.cell l3;rw[hnv]at x3;have HFN:=A7 (fun o=>R0 hml val f o);have HLX:Hid (LB≠XB/\LB≠IB/\E<=LB):=⟨El hLr hXj dE,El hLr hIj dE,HEE.2.2⟩
       obtain⟨o,ho'⟩:=gA (offs[m])
       rw[ho']at x0 x1 x2 x3 l3 HFN;obtain⟨r,hr⟩:=gA (val o)
       rw[hr]at x1 x3 l3;simp only[hr,HNM.out]at HFN;obtain⟨cr,hcr⟩:∃c,AA nm r=c:=⟨_,rfl⟩
       rw[hcr]at x3;simp only[hcr]at HFN;have i1:(0:Int)<=(m:Int):=oM;have i2:(m:Int)<(n:Int):=oM;have i3:(0:Int)<=(r:Int):=oM;have i4:(r:Int)<(j:Int):=oM;have wi:IntKind.i64.wrap ((m:Int)+1)=((m+1:Nat):Int):=by rw[IntKind.wrap_i64];omega
       have HNX:Hid (Below E w (wr.setCell ⟨LB,o,none⟩ (.int .i64 (cr:Int)))/\(wr.setCell ⟨LB,o,none⟩ (.int .i64 (cr:Int))).rowIs IB 4 K (fun r=>.bool (nm r))/\(∀b,b<H0->b≠IB->b≠LB->(wr.setCell ⟨LB,o,none⟩ (.int .i64 (cr:Int))).heap[b]? =w.heap[b]?)/\H0<=XB/\(wr.setCell ⟨LB,o,none⟩ (.int .i64 (cr:Int))).rowIs XB 3 j (fun r=>.int .i64 (DH nm j r))/\(wr.setCell ⟨LB,o,none⟩ (.int .i64 (cr:Int))).ownsRow H0 59 2 (.slice pl PN ql) PN (Au J6 (AU nm all))/\(N0=0\/(wr.setCell ⟨LB,o,none⟩ (.int .i64 (cr:Int))).rowIs LB 40 N0 (fJ offs val f (m+1)))):=by
        exact Zcq
       exact Zej
      .have e7:¬ (m:Int)<(n:Int):=oM;have hmn:m=offs.length:=by have:=HNL.out;omega
       have HFI:Hid (wr.ownsRow H0 59 2 (.slice pl PN ql) PN (Au J6 (AU nm all))/\RnV E IB K LB N0 offs val f w wr):=by
        exact Zev
       have HPNL':=HPNL;clear hlt HJ hmn;go_wp2;refine bodyPost_ret (by simp[results,results14,go_sem, *];try rfl) rfl ?_;exact Zfn
def Z2:Option Value->Nat
 |some (.int _ x)=>x.toNat
 |_=>0
def C5(l:List Ad)(o:Nat):Nat:=Z2 ((Au C9 l)[o]?)
theorem D6(l:List Ad){j k:Nat}(hj:j<l.length)(hk:k<7):(Au C9 l)[7*j+k]? =(C9 l[j])[k]? :=by
 have:=Gk D8 l j k hj hk;rw[Nat.mul_comm]at this;exact this
theorem G1{l:List Ad}{o:Nat}:∀k,k<=l.length->(o∈Bu l k↔∃j,∃hj:j<l.length,j<k/\((o=7*j+1/\Af l[j]=true)\/(o=7*j+2/\1<=(Ae l[j] (A4 l[j].op)).length)\/(o=7*j+3/\2<=(Ae l[j] (A4 l[j].op)).length)\/(o=7*j+4/\3<=(Ae l[j] (A4 l[j].op)).length)))
 |0,_=>⟨fun h=>Yr,fun⟨j,hj,h,_⟩=>absurd h oM⟩
 |k+1,hk=>by
  have hkl:k<l.length:=oM;rw[In hkl,List.mem_append,List.mem_append,G1 k oM];have hn:=It l[k];have new:(o∈(if Af l[k]=true then [7*k+1]else [])\/o∈[7*k+2,7*k+3,7*k+4].take (Ae l[k] (A4 l[k].op)).length)↔((o=7*k+1/\Af l[k]=true)\/(o=7*k+2/\1<=(Ae l[k] (A4 l[k].op)).length)\/(o=7*k+3/\2<=(Ae l[k] (A4 l[k].op)).length)\/(o=7*k+4/\3<=(Ae l[k] (A4 l[k].op)).length)):=by
   generalize (Ae l[k] (A4 l[k].op)).length=n at hn;generalize Af l[k]=s;have hn:n=0\/n=1\/n=2\/n=3:=oM;rcases hn with rfl|rfl|rfl|rfl<;>cases s<;>simp
  constructor
  .rintro((⟨j,hj,h1,h2⟩|h)|h)
   .exact⟨j,hj,oM,h2⟩
   .exact⟨k,hkl,oM,new.1 (.inl h)⟩
   .exact⟨k,hkl,oM,new.1 (.inr h)⟩
  .rintro⟨j,hj,h1,h2⟩;by_cases e:j=k
   .subst e;rcases new.2 h2 with h|h
    .exact .inl (.inr h)
    .exact .inr h
   .exact .inl (.inl ⟨j,hj,oM,h2⟩)
theorem G2{l:List Ad}{o:Nat}:∀k,k<=l.length->(o∈BC l k↔∃j,∃hj:j<l.length,j<k/\o=7*j+5/\(l[j].op=32\/l[j].op=33))
 |0,_=>⟨fun h=>Yr,fun⟨j,hj,h,_⟩=>absurd h oM⟩
 |k+1,hk=>by
  have hkl:k<l.length:=oM;rw[Io hkl,List.mem_append,G2 k oM];constructor
  .rintro(⟨j,hj,h1,h2⟩|h)
   .exact⟨j,hj,oM,h2⟩
   .split at h
    .rename_i h9;exact⟨k,hkl,oM,by simpa using h,h9⟩
    .cases h
  .rintro⟨j,hj,h1,h2,h3⟩;by_cases e:j=k
   .subst e;right;rw[if_pos h3,h2];simp
   .exact .inl ⟨j,hj,oM,h2,h3⟩
theorem K6(l:List Ad):∀k,k<=l.length->(Bu l k).Nodup
 |0,_=>List.nodup_nil
 |k+1,hk=>by
  have hkl:k<l.length:=oM;have ih:=K6 l k oM;have lt:∀o∈Bu l k,o<7*k:=fun o ho=>by
   obtain⟨j,hj,h1,h2⟩:=(G1 k oM).1 ho;omega
  rw[In hkl,List.append_assoc,List.nodup_append];have hn:=It l[k];generalize (Ae l[k] (A4 l[k].op)).length=n at hn;generalize Af l[k]=s;have hn:n=0\/n=1\/n=2\/n=3:=oM;refine⟨ih,?_,fun a ha b hb e=>?_⟩
  .rcases hn with rfl|rfl|rfl|rfl<;>cases s<;>simp
  .have h1:=lt a ha;have h2:7*k<=b:=by rcases hn with rfl|rfl|rfl|rfl<;>cases s<;>simp at hb<;>omega
   omega
theorem K8(l:List Ad):∀k,k<=l.length->(BC l k).Nodup
 |0,_=>List.nodup_nil
 |k+1,hk=>by
  have hkl:k<l.length:=oM;have ih:=K8 l k oM;rw[Io hkl,List.nodup_append];refine⟨ih,by split<;>simp,fun a ha b hb e=>?_⟩;obtain⟨j,hj,h1,h2,-⟩:=(G2 k oM).1 ha;split at hb
  .simp only[List.mem_singleton]at hb;omega
  .cases hb
theorem LZ(i:Ad)(hk:Al i.op=true):((A4 i.op).a≠0↔1<=(Ae i (A4 i.op)).length)/\((A4 i.op).b≠0↔2<=(Ae i (A4 i.op)).length)/\((A4 i.op).c≠0↔3<=(Ae i (A4 i.op)).length):=by
 have hrow:((A4 i.op).b≠0->(A4 i.op).a≠0)/\((A4 i.op).c≠0->(A4 i.op).b≠0):=by
  obtain⟨n,e,h1,h2⟩:=EY hk;rw[e];have Bl:∀n:Nat,n<38->((A4 (n:Int)).b≠0->(A4 (n:Int)).a≠0)/\((A4 (n:Int)).c≠0->(A4 (n:Int)).b≠0):=dE;exact Bl n h2
 unfold Ae;by_cases ha:(A4 i.op).a=0<;>by_cases hb:(A4 i.op).b=0<;>by_cases hc:(A4 i.op).c=0<;>simp[ha,hb,hc]at hrow |-
section
variable {c : Cd}
noncomputable def ndL (c:Cd):List Ad:=Bc (ndK c.list) id c.list c.list.length
theorem LV(K:Nat->Bool)(f:Ad->Ad)(l:List Ad):∀j,Bc K f l j=(Bc K id l j).map f
 |0=>rfl
 |j+1=>by
  rw[Bc,Bc,LV K f l j,List.map_append];congr 1;cases l[j]? with
  |none=>rfl
  |some i=>simp only;split<;>rfl
theorem MO{i:Ad}(h:i∈ndL c):∃k,∃hk:k<c.list.length,Nd c.list k/\i=c.list[k]:=by
 obtain⟨k,hk,-,h1,h2⟩:=Ro c.list.length (gF _) h;exact⟨k,hk,BH.1 h1,h2⟩
theorem Rn{k:Nat}(hk:k<c.list.length)(n:Nd c.list k):c.list[k]∈ndL c:=RF (f:=id) hk (BH.2 n) c.list.length hk (gF _)
theorem MN(hc:(Ai c).1=0){i:Ad}(h:i∈ndL c):Al i.op=true/\AS c i (A4 i.op)=true:=by
 obtain⟨k,hk,-,rfl⟩:=MO h;obtain⟨h1,h2,h3⟩:=Bi.1 hc;obtain⟨t1,t2,t3,t4⟩:=Ao (Ck h2 hk);exact⟨t1,t2⟩
theorem val_R(hc:(Ai c).1=0){o:Nat}(ho:o∈Bu (ndL c) (ndL c).length):o<(ndL c).length*7/\(Au C9 (ndL c))[o]? =some (.int .i64 (C5 (ndL c) o:Int))/\C5 (ndL c) o<c.regs.length/\usR c.list (C5 (ndL c) o)=true:=by
 obtain⟨j,hj,-,h⟩:=(G1 _ (gF _)).1 ho;have hm:=gD hj;obtain⟨k1,k2⟩:=MN hc hm;obtain⟨ra,rb,rc⟩:=LZ _ k1;obtain⟨k,hk,hn,e⟩:=MO hm;obtain⟨c1,c2,c3⟩:=Bi.1 hc;have rd:∀r∈Ae (ndL c)[j] (A4 (ndL c)[j].op),usR c.list r.toNat=true:=fun r hr=>Gx c2 hk hn (by rw[<-e];exact hr);have Bl:∀ (kk:Nat) (x:Int),kk<7->o=7*j+kk->(C9 (ndL c)[j])[kk]? =some (.int .i64 x)->0<=x->x<(c.regs.length:Int)->usR c.list x.toNat=true->o<(ndL c).length*7/\(Au C9 (ndL c))[o]? =some (.int .i64 (C5 (ndL c) o:Int))/\C5 (ndL c) o<c.regs.length/\usR c.list (C5 (ndL c) o)=true:=fun kk x hkk eo hx x0 x1 hu=>by
  have e1:(Au C9 (ndL c))[o]? =some (.int .i64 x):=by rw[eo,D6 _ hj hkk];exact hx
  have e2:C5 (ndL c) o=x.toNat:=by unfold C5;rw[e1];rfl
  refine⟨oM,?_,by rw[e2];omega,by rw[e2];exact hu⟩;rw[e1,e2];congr 2;omega
 have ia:(A4 (ndL c)[j].op).a≠0->(ndL c)[j].a∈Ae (ndL c)[j] (A4 (ndL c)[j].op):=fun h9=>by unfold Ae;simp[h9]
 have ib:(A4 (ndL c)[j].op).b≠0->(ndL c)[j].b∈Ae (ndL c)[j] (A4 (ndL c)[j].op):=fun h9=>by unfold Ae;simp[h9]
 have ic:(A4 (ndL c)[j].op).c≠0->(ndL c)[j].c∈Ae (ndL c)[j] (A4 (ndL c)[j].op):=fun h9=>by unfold Ae;simp[h9]
 rcases h with⟨e1,s⟩|⟨e1,s⟩|⟨e1,s⟩|⟨e1,s⟩
 .have hd:(A4 (ndL c)[j].op).d≠0:=by unfold Af at s;simpa using s
  obtain⟨x0,x1⟩:=Ag (Cx k2) hd;exact Bl 1 _ dE e1 rfl x0 x1 (CC.2 ⟨k,hk,hn,by rw[<-e];exact s,by rw[<-e]⟩)
 .have h9:=ra.2 s;obtain⟨x0,x1⟩:=Ag (BF k2) h9;exact Bl 2 _ dE e1 rfl x0 x1 (rd _ (ia h9))
 .have h9:=rb.2 s;obtain⟨x0,x1⟩:=Ag (CQ k2) h9;exact Bl 3 _ dE e1 rfl x0 x1 (rd _ (ib h9))
 .have h9:=rc.2 s;obtain⟨x0,x1⟩:=Ag (CR k2) h9;exact Bl 4 _ dE e1 rfl x0 x1 (rd _ (ic h9))
theorem nm_R(hc:(Ai c).1=0)(r:Nat):IZ (Bu (ndL c) (ndL c).length) (C5 (ndL c)) r=usR c.list r:=by
 rw[Bool.eq_iff_iff];constructor
 .intro h;obtain⟨o,ho,e⟩:=List.any_eq_true.1 h;have e:C5 (ndL c) o=r:=by simpa using e
  rw[<-e];exact(val_R hc ho).2.2.2
 .intro h;obtain⟨k,hk,n,s,e⟩:=CC.1 h;obtain⟨j,hj,ej⟩:=List.mem_iff_getElem.1 (Rn hk n);refine List.any_eq_true.2 ⟨7*j+1,(G1 _ (gF _)).2 ⟨j,hj,hj,.inl ⟨rfl,by rw[ej];exact s⟩⟩,?_⟩;have:C5 (ndL c) (7*j+1)=r:=by
   unfold C5;rw[D6 _ hj dE,ej,<-e];rfl
  simpa using this
end
def Iu(rho:Nat->Nat)(i:Ad):Ad:={i with d:=if Af i=true then((rho i.d.toNat:Nat):Int)else i.d,a:=if(A4 i.op).a=0 then i.a else((rho i.a.toNat:Nat):Int),b:=if(A4 i.op).b=0 then i.b else((rho i.b.toNat:Nat):Int),c:=if(A4 i.op).c=0 then i.c else((rho i.c.toNat:Nat):Int)}
def ZS(sig:Nat->Nat)(i:Ad):Ad:={i with n:=if i.op=32\/i.op=33 then((sig i.n.toNat:Nat):Int)else i.n}
theorem Ww(rho sig:Nat->Nat){i:Ad}(hk:Al i.op=true):ZS sig (Iu rho i)=CY rho sig i:=by
 have hrow:(A4 i.op).n=10↔(i.op=32\/i.op=33):=by
  obtain⟨n,e,h1,h2⟩:=EY hk;rw[e];have Bl:∀n:Nat,n<38->((A4 (n:Int)).n=10↔((n:Int)=32\/(n:Int)=33)):=dE;exact Bl n h2
 unfold ZS Iu CY Af;simp only;by_cases hd:(A4 i.op).d=0<;>by_cases hn:i.op=32\/i.op=33<;>simp[hd,hn,hrow]
section
variable {c : Cd}
theorem fld_R(hc:(Ai c).1=0)(f:Nat->Value)(hf:∀o,o<(ndL c).length*7->(Au C9 (ndL c))[o]? =some (f o))(o:Nat)(ho:o<((ndL c).map (Iu (AA (usR c.list)))).length*7):(Au C9 ((ndL c).map (Iu (AA (usR c.list)))))[o]? =some (fJ (Bu (ndL c) (ndL c).length) (C5 (ndL c)) f (Bu (ndL c) (ndL c).length).length o):=by
 rw[List.length_map]at ho;obtain⟨j,k,ek,hk⟩:∃j k,o=7*j+k/\k<7:=⟨o/7,o%7,oM,oM⟩
 have hj:j<(ndL c).length:=oM;obtain⟨k1,k2⟩:=MN hc (gD hj);obtain⟨ra,rb,rc⟩:=LZ _ k1;have hfo:=hf o ho;rw[ek,D6 _ hj hk]at hfo;have hv:C5 (ndL c) (7*j+k)=Z2 ((C9 (ndL c)[j])[k]?):=by unfold C5;rw[D6 _ hj hk]
 have mem:o∈Bu (ndL c) (ndL c).length↔((k=1/\Af (ndL c)[j]=true)\/(k=2/\(A4 (ndL c)[j].op).a≠0)\/(k=3/\(A4 (ndL c)[j].op).b≠0)\/(k=4/\(A4 (ndL c)[j].op).c≠0)):=by
  rw[G1 _ (gF _),ra,rb,rc];constructor
  .rintro⟨j',hj',-,h⟩;have:j'=j:=oM;subst this;exact Zeh
  .intro h;refine⟨j,hj,hj,?_⟩;exact Zeh
 have enm:IZ (Bu (ndL c) (ndL c).length) (C5 (ndL c))=usR c.list:=funext (nm_R hc);have gj:(List.map (Iu (AA (usR c.list))) (ndL c))[j]' Zhu=Iu (AA (usR c.list)) (ndL c)[j]:=List.getElem_map ..;rw[ek,D6 _ Zhu hk,gj];unfold fJ;rw[List.take_length,<-ek,enm];simp only[mem];rw[ek,hv];generalize (ndL c)[j]=i at *;obtain⟨op,d,a,b,e,n,z⟩:=i;simp only at hfo |-;rcases(show k=0\/k=1\/k=2\/k=3\/k=4\/k=5\/k=6 by omega)with rfl|rfl|rfl|rfl|rfl|rfl|rfl
 .rw[if_neg oM];rw[<-hfo];rfl
 .by_cases s:Af (⟨op,d,a,b,e,n,z⟩:Ad)=true
  .rw[if_pos (.inl ⟨rfl,s⟩)];show some (Value.int .i64 (if Af _=true then _ else d))=_;rw[if_pos s];rfl
  .rw[if_neg (by simp[s]),<-hfo];show some (Value.int .i64 (if Af _=true then _ else d))=_;rw[if_neg s];rfl
 .by_cases s:(A4 op).a=0
  .rw[if_neg (by simp[s]),<-hfo];show some (Value.int .i64 (if(A4 op).a=0 then a else _))=_;rw[if_pos s];rfl
  .rw[if_pos (.inr (.inl ⟨rfl,s⟩))];show some (Value.int .i64 (if(A4 op).a=0 then a else _))=_;rw[if_neg s];rfl
 .by_cases s:(A4 op).b=0
  .rw[if_neg (by simp[s]),<-hfo];show some (Value.int .i64 (if(A4 op).b=0 then b else _))=_;rw[if_pos s];rfl
  .rw[if_pos (.inr (.inr (.inl ⟨rfl,s⟩)))];show some (Value.int .i64 (if(A4 op).b=0 then b else _))=_;rw[if_neg s];rfl
 .by_cases s:(A4 op).c=0
  .rw[if_neg (by simp[s]),<-hfo];show some (Value.int .i64 (if(A4 op).c=0 then e else _))=_;rw[if_pos s];rfl
  .rw[if_pos (.inr (.inr (.inr ⟨rfl,s⟩)))];show some (Value.int .i64 (if(A4 op).c=0 then e else _))=_;rw[if_neg s];rfl
 .rw[if_neg oM];rw[<-hfo];rfl
 .rw[if_neg oM];rw[<-hfo];rfl
theorem O6(g:Ad->Ad)(hg:∀i,(g i).op=i.op)(l:List Ad):∀k,BC (l.map g) k=BC l k
 |0=>rfl
 |k+1=>by
  rw[BC,BC,O6 g hg l k,List.getElem?_map];cases l[k]? with
  |none=>rfl
  |some i=>simp only[Option.map_some,hg]
theorem val_S(hc:(Ai c).1=0)(rho:Nat->Nat){o:Nat}(ho:o∈BC (ndL c) (ndL c).length):o<(ndL c).length*7/\(Au C9 ((ndL c).map (Iu rho)))[o]? =some (.int .i64 (C5 (ndL c) o:Int))/\C5 (ndL c) o<c.slots.length/\usS c.list (C5 (ndL c) o)=true:=by
 obtain⟨j,hj,-,e1,op⟩:=(G2 _ (gF _)).1 ho;have hm:=gD hj;obtain⟨k,hk,hn,e⟩:=MO hm;obtain⟨m,m1,m2⟩:=Gu hc hk (by rw[<-e];exact op);have e2:C5 (ndL c) o=m:=by
  unfold C5;rw[e1,D6 _ hj dE];show Z2 (some (Value.int .i64 (ndL c)[j].n))=m;rw[e,m1];rfl
 refine⟨oM,?_,by rw[e2];exact m2,?_⟩
 .rw[e2,e1,D6 _ Zhu dE,List.getElem_map];show some (Value.int .i64 (ndL c)[j].n)=_;rw[e,m1]
 .rw[e2];exact EJ.2 ⟨k,hk,hn,by rw[<-e];exact op,by rw[m1];rfl⟩
theorem nm_S(hc:(Ai c).1=0)(r:Nat):IZ (BC (ndL c) (ndL c).length) (C5 (ndL c)) r=usS c.list r:=by
 rw[Bool.eq_iff_iff];constructor
 .intro h;obtain⟨o,ho,e⟩:=List.any_eq_true.1 h;have e:C5 (ndL c) o=r:=by simpa using e
  rw[<-e];exact(val_S hc id ho).2.2.2
 .intro h;obtain⟨k,hk,n,s,e⟩:=EJ.1 h;obtain⟨j,hj,ej⟩:=List.mem_iff_getElem.1 (Rn hk n);refine List.any_eq_true.2 ⟨7*j+5,(G2 _ (gF _)).2 ⟨j,hj,hj,rfl,by rw[ej];exact s⟩,?_⟩;have:C5 (ndL c) (7*j+5)=r:=by
   unfold C5;rw[D6 _ hj dE,ej,<-e];rfl
  simpa using this
theorem fld_S(hc:(Ai c).1=0)(rho:Nat->Nat)(f:Nat->Value)(hf:∀o,o<(ndL c).length*7->(Au C9 ((ndL c).map (Iu rho)))[o]? =some (f o))(o:Nat)(ho:o<(ndL c).length*7):(Au C9 (((ndL c).map (Iu rho)).map (ZS (AA (usS c.list)))))[o]? =some (fJ (BC (ndL c) (ndL c).length) (C5 (ndL c)) f (BC (ndL c) (ndL c).length).length o):=by
 obtain⟨j,k,ek,hk⟩:∃j k,o=7*j+k/\k<7:=⟨o/7,o%7,oM,oM⟩
 have hj:j<(ndL c).length:=oM;have hj1:j<((ndL c).map (Iu rho)).length:=by rw[List.length_map];exact hj
 have hfo:=hf o ho;rw[ek,D6 _ hj1 hk,List.getElem_map]at hfo;have hv:C5 (ndL c) (7*j+k)=Z2 ((C9 (ndL c)[j])[k]?):=by unfold C5;rw[D6 _ hj hk]
 have mem:o∈BC (ndL c) (ndL c).length↔(k=5/\((ndL c)[j].op=32\/(ndL c)[j].op=33)):=by
  rw[G2 _ (gF _)];constructor
  .rintro⟨j',hj',-,h,s⟩;have:j'=j:=oM;subst this;exact⟨oM,s⟩
  .intro h;exact⟨j,hj,hj,oM,h.2⟩
 have enm:IZ (BC (ndL c) (ndL c).length) (C5 (ndL c))=usS c.list:=funext (nm_S hc);rw[ek,D6 _ (by rw[List.length_map];exact hj1) hk,List.getElem_map,List.getElem_map];unfold fJ;rw[List.take_length,<-ek,enm];simp only[mem];rw[ek,hv];generalize (ndL c)[j]=i at *;by_cases k5:k=5
 .subst k5;by_cases s:i.op=32\/i.op=33
  .rw[if_pos ⟨rfl,s⟩];show some (Value.int .i64 (if i.op=32\/i.op=33 then _ else _))=_;rw[if_pos s];rfl
  .rw[if_neg (fun q=>s q.2),<-hfo];show some (Value.int .i64 (if i.op=32\/i.op=33 then _ else _))=_;rw[if_neg s];rfl
 .rw[if_neg (fun q=>k5 q.1),<-hfo];rcases(show k=0\/k=1\/k=2\/k=3\/k=4\/k=6 by omega)with rfl|rfl|rfl|rfl|rfl|rfl<;>rfl
theorem Qh(hc:(Ai c).1=0):((ndL c).map (Iu (AA (usR c.list)))).map (ZS (AA (usS c.list)))=(pruneC c).list:=by
 show _=Bc (ndK c.list) (CY (AA (usR c.list)) (AA (usS c.list))) c.list c.list.length;rw[LV,List.map_map];refine List.map_congr_left fun i hi=>?_;exact Ww _ _ (MN hc hi).1
end
theorem Wn{d:Cd}(d2:AR d ⟨[],[]⟩ d.list=true)(hn:∀k,k<d.list.length->Nd d.list k)(hr:∀r,r<d.regs.length->usR d.list r=true)(hsl:∀r,r<d.slots.length->usS d.list r=true):pruneC d=d:=by
 have hi:∀i∈d.list,CY (AA (usR d.list)) (AA (usS d.list)) i=i:=fun i hi=>by
  obtain⟨p,hp,rfl⟩:=List.mem_iff_getElem.1 hi;have t:=Ck d2 hp;obtain⟨t1,t2,-,-⟩:=Ao t;have Bl:∀x:Int,0<=x->x<(d.regs.length:Int)->((AA (usR d.list) x.toNat:Nat):Int)=x:=fun x x0 x1=>by
   rw[Ha x.toNat (fun s hs=>hr s oM),Int.toNat_of_nonneg x0]
  unfold CY;have e1:(if(A4 d.list[p].op).d=0 then d.list[p].d else((AA (usR d.list) d.list[p].d.toNat:Nat):Int))=d.list[p].d:=by
   by_cases q:(A4 d.list[p].op).d=0
   .rw[if_pos q]
   .rw[if_neg q];obtain⟨x0,x1⟩:=Ag (Cx t2) q;exact Bl _ x0 x1
  have e2:(if(A4 d.list[p].op).a=0 then d.list[p].a else((AA (usR d.list) d.list[p].a.toNat:Nat):Int))=d.list[p].a:=by
   by_cases q:(A4 d.list[p].op).a=0
   .rw[if_pos q]
   .rw[if_neg q];obtain⟨x0,x1⟩:=Ag (BF t2) q;exact Bl _ x0 x1
  have e3:(if(A4 d.list[p].op).b=0 then d.list[p].b else((AA (usR d.list) d.list[p].b.toNat:Nat):Int))=d.list[p].b:=by
   by_cases q:(A4 d.list[p].op).b=0
   .rw[if_pos q]
   .rw[if_neg q];obtain⟨x0,x1⟩:=Ag (CQ t2) q;exact Bl _ x0 x1
  have e4:(if(A4 d.list[p].op).c=0 then d.list[p].c else((AA (usR d.list) d.list[p].c.toNat:Nat):Int))=d.list[p].c:=by
   by_cases q:(A4 d.list[p].op).c=0
   .rw[if_pos q]
   .rw[if_neg q];obtain⟨x0,x1⟩:=Ag (CR t2) q;exact Bl _ x0 x1
  have e5:(if d.list[p].op=32\/d.list[p].op=33 then((AA (usS d.list) d.list[p].n.toNat:Nat):Int)else d.list[p].n)=d.list[p].n:=by
   by_cases q:d.list[p].op=32\/d.list[p].op=33
   .rw[if_pos q];obtain⟨x0,x1⟩:=Gv t q;rw[Ha _ (fun s hs=>hsl s oM),Int.toNat_of_nonneg x0]
   .rw[if_neg q]
  rw[e1,e2,e3,e4,e5]
 have hK:∀k,k<d.list.length->ndK d.list k=true:=fun k hk=>BH.2 (hn k hk);have e1:(pruneC d).regs=d.regs:=RE hr;have e2:(pruneC d).slots=d.slots:=RE hsl;have e3:(pruneC d).list=d.list:=by
  show Bc _ _ d.list d.list.length=_;rw[ZL _ (gF _) hK hi,List.take_length]
 have Bl:∀a b:Cd,a.sign=b.sign->a.regs=b.regs->a.slots=b.slots->a.list=b.list->a=b:=fun a b=>by
  obtain⟨a1,a2,a3,a4⟩:=a;obtain⟨b1,b2,b3,b4⟩:=b;simp only;rintro rfl rfl rfl rfl;rfl
 exact Bl _ _ rfl e1 e2 e3
theorem Wh{α:Type}(p:Nat->Bool)(l:List α):List.Sublist (AU p l) l:=by
 have h1:List.Sublist ((List.range l.length).filter p) (List.range l.length):=List.filter_sublist;have h2:=h1.filterMap (fun(r:Nat)=>l[r]?);have h3:(List.range l.length).filterMap (fun(r:Nat)=>l[r]?)=l:=by
  apply List.ext_getElem?;intro t;have h:=(Hp (l:=l) (List.range l.length) (fun r hr=>by simpa using hr)).2 t;rw[h];by_cases ht:t<l.length
  .rw[List.getElem?_range ht];rfl
  .rw[List.getElem?_eq_none (by simpa using ht),List.getElem?_eq_none oM];rfl
 rw[h3]at h2;exact h2
def Ed(l:List Sl):Nat:=(l.filter fun s=>s.keep).length
theorem Qg(c:Cd):Ed (pruneC c).slots<=Ed c.slots:=((Wh (usS c.list) c.slots).filter _).length_le
theorem nd_in{l:List Ad}{S:Nat->Bool}(hb:∀k (hk:k<l.length),l[k].op<34)(h1:∀k (hk:k<l.length),l[k].op=31->S k=true)(h2:∀k (hk:k<l.length),S k=true->∀r∈Ae l[k] (A4 l[k].op),∀j (hj:j<l.length),Af l[j]=true->l[j].d.toNat=r.toNat->S j=true)(h3:∀k (hk:k<l.length),S k=true->l[k].op=32->∀j (hj:j<l.length),l[j].op=33->l[j].n=l[k].n->S j=true){k:Nat}(n:Nd l k):S k=true:=by
 induction n with
 |out hk o=>exact h1 _ hk o
 |set hk hj n r hr hs e ih=>exact h2 _ hk ih r hr _ hj hs e
 |store hk hj n o1 o2 e ih=>exact h3 _ hk ih o1 _ hj o2 e
 |beg hk n hbb ih=>
  obtain⟨g1,-,g3⟩:=DX l _ (Nat.le_of_lt hk) _ (Ff hk hbb);have:=hb _ g1;omega
 |fin hk n hf hbb ih=>have:=hb _ hk;omega
 |begE hk n hf hbb ih=>have:=hb _ hk;omega
def Bm(a:Int):List Ad:=[⟨32,1,0,0,0,0,0⟩,⟨29,0,0,0,0,0,0⟩,⟨4,2,0,1,0,0,0⟩,⟨33,0,2,0,0,0,0⟩,⟨31,0,a,0,0,0,0⟩]
def Cr(s:List BM)(a:Int):Cd:=⟨s,[⟨3,0⟩,⟨3,0⟩,⟨3,0⟩],[⟨⟨3,0⟩,true,0,0⟩],Bm a⟩
theorem He(k:Nat):Nd (Bm 0) k↔k=1\/k=4:=by
 constructor
 .intro n;have h:=nd_in (l:=Bm 0) (S:=fun k=>decide (k=1\/k=4)) dE dE dE dE n;simpa using h
 .have n4:Nd (Bm 0) 4:=.out dE dE;rintro(rfl|rfl)
  .exact .set (k:=4) (j:=1) dE dE n4 0 dE dE dE
  .exact n4
theorem FV:∀k,k<5->Nd (Bm 2) k:=by
 have n4:Nd (Bm 2) 4:=.out dE dE;have n2:Nd (Bm 2) 2:=.set (k:=4) (j:=2) dE dE n4 2 dE dE dE;have n1:Nd (Bm 2) 1:=.set (k:=2) (j:=1) dE dE n2 0 dE dE dE;have n0:Nd (Bm 2) 0:=.set (k:=2) (j:=0) dE dE n2 1 dE dE dE;have n3:Nd (Bm 2) 3:=.store (k:=0) (j:=3) dE dE n0 dE dE dE;intro k hk
 match k,hk with
 |0,_=>exact n0
 |1,_=>exact n1
 |2,_=>exact n2
 |3,_=>exact n3
 |4,_=>exact n4
theorem O1(s:List BM)(ht:AR (Cr s 2) ⟨[],[]⟩ (Bm 2)=true):pruneC (Cr s 2)=Cr s 2:=by
 refine Wn ht (fun k hk=>FV k hk) (fun r hr=>?_) (fun r hr=>?_)
 .have hr:r<3:=hr
  match r,hr with
  |0,_=>exact(CC (l:=Bm 2)).2 ⟨1,dE,FV 1 dE,dE,dE⟩
  |1,_=>exact(CC (l:=Bm 2)).2 ⟨0,dE,FV 0 dE,dE,dE⟩
  |2,_=>exact(CC (l:=Bm 2)).2 ⟨2,dE,FV 2 dE,dE,dE⟩
 .have hr:r<1:=hr
  match r,hr with
  |0,_=>exact(EJ (l:=Bm 2)).2 ⟨0,dE,FV 0 dE,dE,dE⟩
theorem PR(s:List BM):(pruneC (Cr s 0)).list.length=2/\(pruneC (Cr s 0)).regs.length=1/\(pruneC (Cr s 0)).slots.length=0:=by
 have hK:∀k,ndK (Bm 0) k=decide (k=1\/k=4):=fun k=>by rw[Bool.eq_iff_iff,BH,He];simp
 have hR:∀r,usR (Bm 0) r=decide (r=0):=fun r=>by
  rw[Bool.eq_iff_iff,CC];simp only[decide_eq_true_eq];constructor
  .rintro⟨k,hk,n,h1,h2⟩;rcases(He k).1 n with e|e<;>subst e
   .exact h2.symm.trans (show(Bm 0)[1].d.toNat=0 from rfl)
   .exact absurd (show Af ⟨31,0,0,0,0,0,0⟩=true from h1) dE
  .rintro rfl;exact⟨1,dE,(He 1).2 (.inl rfl),dE,dE⟩
 have hS:∀r,usS (Bm 0) r=false:=fun r=>by
  cases h:usS (Bm 0) r with
  |false=>rfl
  |true=>
   obtain⟨k,hk,n,h1,h2⟩:=EJ.1 h;rcases(He k).1 n with e|e<;>subst e
   .exact absurd (show(29:Int)=32\/(29:Int)=33 from h1) dE
   .exact absurd (show(31:Int)=32\/(31:Int)=33 from h1) dE
 refine⟨?_,?_,?_⟩
 .show(Bc (ndK (Bm 0)) _ (Bm 0) (Bm 0).length).length=2;rw[Qf _ (gF _),show ndK (Bm 0)=fun k=>decide (k=1\/k=4)from funext hK];decide
 .show(AU (usR (Bm 0)) _).length=1;rw[Ho,show usR (Bm 0)=fun r=>decide (r=0)from funext hR];show((List.range 3).filter fun r=>decide (r=0)).length=1;decide
 .show(AU (usS (Bm 0)) _).length=0;rw[Ho,show usS (Bm 0)=fun r=>false from funext hS];show((List.range 1).filter fun r=>false).length=0;decide


theorem setsP_B(i:Ad):OF i=Af i:=by
 unfold OF Af;cases h:((A4 i.op).d != 0)with
 |false=>
  have:(A4 i.op).d=0:=by simpa using h
  simp[this]
 |true=>
  have:(A4 i.op).d≠0:=by simpa using h
  simp[this]
def Iz(n:Nat)(l:List Ad):List Value:=(List.range n).map fun r=>.bool (decide (r∈KJ l))
theorem I3(n:Nat)(l:List Ad):(Iz n l).length=n:=by unfold Iz;simp
theorem Jq{n:Nat}(l:List Ad){r:Nat}(h:r<n):(Iz n l)[r]? =some (.bool (decide (r∈KJ l))):=by unfold Iz;simp[h]
theorem XK(n:Nat):Iz n []=List.replicate n (.bool false):=by
 apply List.ext_getElem?;intro k;by_cases hk:k<n
 .rw[Jq _ hk,List.getElem?_replicate,if_pos hk];simp[KJ]
 .rw[List.getElem?_eq_none (by rw[I3];omega),List.getElem?_eq_none sO]
theorem Hb(i:Ad):KJ [i]=if Af i=true then [i.d.toNat]else []:=by
 unfold KJ;by_cases h:Af i=true
 .simp[h]
 .simp[h]
theorem Ue{n:Nat}{l:List Ad}{i:Ad}(h:Af i=false):Iz n (l++[i])=Iz n l:=by
 unfold Iz;rw[Cn,Hb,if_neg (by rw[h];simp),List.append_nil]
theorem Ud{n:Nat}{l:List Ad}{i:Ad}(h:Af i=true){D:Nat}(hD:D<n)(e:i.d.toNat=D):(Iz n l).set D (.bool true)=Iz n (l++[i]):=by
 apply List.ext_getElem?;intro k;by_cases hk:k<n
 .rw[Jq _ hk,Cn,Hb,if_pos h,List.getElem?_set];by_cases h2:D=k
  .subst h2;rw[if_pos rfl,if_pos (by rw[I3];exact hD)];simp[e]
  .rw[if_neg h2,Jq _ hk];simp only[List.mem_append,List.mem_singleton,e];congr 2;simp[Ne.symm h2]
 .rw[List.getElem?_eq_none (by rw[List.length_set,I3];omega),List.getElem?_eq_none (by rw[I3];omega)]
theorem OK{l:List Ad}{i:Ad}(h:Af i=false)(hl:Bd l):Bd (l++[i]):=by
 unfold Bd at *;rw[Cn,Hb,if_neg (by rw[h];simp),List.append_nil];exact hl
theorem OJ{l:List Ad}{i:Ad}(h:Af i=true)(hl:Bd l)(hn:i.d.toNat∉KJ l):Bd (l++[i]):=by
 unfold Bd at *;rw[Cn,Hb,if_pos h];rw[List.nodup_append];exact⟨hl,sM,fun a ha b hb e=>by simp at hb;subst hb;subst e;exact hn ha⟩
theorem QE{l:List Ad}{j:Nat}(hj:j<l.length)(h:Af l[j]=true)(hm:l[j].d.toNat∈KJ (l.take j)):¬Bd l:=fun hs=>by
 have e:l=l.take j++l[j]::l.drop (j+1):=by rw[<-List.drop_eq_getElem_cons hj,List.take_append_drop]
 unfold Bd at hs;rw[e,show l.take j++l[j]::l.drop (j+1)=(l.take j++[l[j]])++l.drop (j+1) by simp,Cn,Cn,Hb,if_pos h]at hs;have h2:=(List.nodup_append.1 hs).1;exact(List.nodup_append.1 h2).2.2 _ hm _ sM rfl
theorem Mf{c:Cd}(hg:Good c)(hk:Ba c):Ib c (BE c):=
 ⟨(by unfold BE;simp),fun j h h'=>(by rw[Mg h' h];exact Nw hg (gD h) (hk.sbits _ (gD h))),start_z hg⟩

end Go.Proofs.YtnbccaicijcklaaGreat
