import Derived.Test.YtnlgkkbmbijndaaGreatEnco20
import Derived.Test.YtnlgkkbmbijndaaGreatEnco21
import Derived.Test.YtnlgkkbmbijndaaGreatEnco4
import Derived.Deep.DeepCutAuto
import Derived.Defers
import Derived.Recover
import Derived.Laws.Pointers
import Derived.Test.YtnlgkkbmbijndaaGreatEnco15
import Derived.Test.YtnlgkkbmbijndaaGreatEnco19
import Derived.Test.YtnlgkkbmbijndaaGreatEnco17
import Derived.Laws.IdiomStrings
import Derived.Test.YtnlgkkbmbijndaaGreatEnco1
namespace Go.Proofs.YtnlgkkbmbijndaaGreat
open Go.RowKit Go.Proofs.Tryz
set_option linter.all false
set_option maxRecDepth 100000
set_option maxHeartbeats 16000000
theorem Ic(s:ByteArray)(hs:s.size<=65536)(w:World):
 Calls prog 86 #[.string s] w fun e w'=>e=.returned (.string s)/\Below w.heap.size w w':=by
 go_enter func86,ntmps86;go_wp2_with(go_at_call 112;refine(DA s _ oM).mono ?_;rintro e w1 ⟨rfl,hb⟩);refine bodyPost_ret (by simp[results,results86,go_sem, *];try rfl) rfl ?_;exact⟨rfl,hb⟩
theorem Gj(E RB:Nat)(s:ByteArray)(A n:Nat)(w:World)(h:Bq E RB s A w)(hA:A<=s.size)(hs:s.size<=140737488355328)(hn:n<=140737488355328)(hE:E<=w.heap.size):
 Calls prog 83 #[.pointer (some ⟨RB,0,none⟩),.int .i64 (n:Int)] w (AV E RB s w (fun l=>.string (AT l)) (By n ((Aa s).drop A) A)):=by
 by_cases hlt:s.size<A+n
 .refine(FK E RB s A n w h hA hs hn hlt).mono ?_;rintro e w' ⟨e1,e2⟩;unfold By;rw[if_pos Qn];exact⟨e1,e2.mono hE,AZ.of e2⟩
 .refine(GL E RB s A n w h hs oM hE).mono ?_;rintro e w' ⟨e1,e2,e3,e4⟩;unfold By;rw[if_neg Qn,<-CF];refine⟨?_,e2,e4,e3,oM,by rw[List.drop_drop]⟩;rw[e1];simp only[Dv]
theorem O4:Ej=Ac (Bl 1 2) fun k=>Ac (Bh 64) fun n=>Ac (By n) fun l=>Ac BJ fun m=>Ay (⟨AT l,(k:Int),(m:Int)⟩:Be):=by
 unfold Ej IE CD;simp only[B3,Bw,if_true]
def OC(a b c:Value)(j:Nat):Value:=if j=0 then a else if j=1 then b else c
theorem Kx{n:Nat}{l x l':List Nat}{p p':Nat}(h:By n l p=.ok (x,l',p')):x.length=n:=by
 unfold By at h;split at h
 .cases h
 .simp only[Except.ok.injEq,Prod.mk.injEq]at h;rw[<-h.1,List.length_take];omega
theorem Ky(E RB:Nat)(s:ByteArray)(A:Nat)(w:World)(h:Bq E RB s A w)(hA:A<=s.size)(hs:s.size<=140737488355328)(hE:E<=w.heap.size):
 Calls prog 51 #[.pointer (some ⟨RB,0,none⟩)] w (AV E RB s w pv (Ej ((Aa s).drop A) A)):=by
 obtain⟨W0,hW0⟩:∃W,w.alloc (.cells #[.string ⟨#[]⟩,.int .i64 0,.int .i64 0] 59)=W:=⟨_,rfl⟩
 have hb0:Below w.heap.size w W0:=by rw[<-hW0];exact A5 _ _
 have h0:=h.below hb0;have hE0:E<=W0.heap.size:=gH hE hb0.size;obtain⟨X,hX⟩:=gA (w.heap.size)
 have hXR:X≠RB:=by have:=h.b.lt;omega
 have hr0:W0.rowIs X 59 3 (OC (.string ⟨#[]⟩) (.int .i64 0) (.int .i64 0)):=by
  rw[<-hW0,<-hX];exact World.rowIs_alloc w #[.string ⟨#[]⟩,.int .i64 0,.int .i64 0] 59 _ (fun i hi=>by
   rcases(show i=0\/i=1\/i=2 by have:i<3:=hi;omega)with rfl|rfl|rfl<;>rfl)
 have KS:Calls prog 85 #[.pointer (some ⟨RB,0,none⟩),.int .i64 1,.int .i64 2] W0 (AV E RB s W0 (fun(b:Nat)=>.int .i64 (b:Int)) (Bl 1 2 ((Aa s).drop A) A)):=DM E RB s A 1 2 W0 h0 hA hs hE0;obtain⟨R,hR⟩:=gA (Ej ((Aa s).drop A) A)
 rw[hR];rw[O4]at hR;have HRS:=A6 ((BN.start h).below hE hb0);cases hq:Bl 1 2 ((Aa s).drop A) A with
 |error er=>
  obtain⟨er,at_⟩:=er;have HP:R=.error (er,at_):=by rw[<-hR];exact Ah hq
  rw[hq]at KS;have KS':=A6 KS;have HG:Hid (∀w',Below E W0 w'->AZ RB W0 w'->AV E RB s w pv R (AY er at_) w'):=fun w' a b=>by rw[HP];exact HRS.bad pv er at_ a b
  unfold AV AY at KS';unfold AY at HG;simp only at KS';clear h h0 hb0 hr0 KS hq HP hR hX hXR hE0;go_enter func51,ntmps51;exact Qz
 |ok r=>
  obtain⟨k,l',A1⟩:=r;rw[Ap hq]at hR;rw[hq]at KS;have KS':=A6 KS;unfold AV at KS';simp only at KS';have HR0:=A6 hr0;have HRB:=A6 h.b.lt;have HX:Hid (w.heap.size<=X):=Nat.le_of_eq hX;have HRR:=A6 hR;clear h h0 hb0 hr0 KS hE0 hR hq;go_enter func51,ntmps51;go_upto_region 1 with fail;try rw[hW0]
  try rw[hX]
  clear hW0 hX;go_upto_region 2 with(go_at_call 85;(with_reducible refine KS'.out.mono ?_);rintro e9 w4 ⟨rfl,hb4,ho4,hm4,hl4,hd4⟩;have HB4:=A6 hb4;have HO4:=A6 ho4;have HM4:=A6 hm4;have HD4:=A6 hd4;have HL4:=A6 hl4;clear hb4 ho4 hm4 hl4 hd4)
  obtain⟨Y,hY⟩:=gA (w4.heap.size)
  obtain⟨V,hV⟩:=gA (w4.alloc (.cells #[.string ⟨#[]⟩,.int .i64 (k:Int),.int .i64 0] 59))
  have hbV:Below w4.heap.size w4 V:=by rw[<-hV];exact A5 _ _
  have r4:=AC HO4.out HR0.out hXR;have rx:=r4.of_block (hbV.block _ r4.lt);have ry:V.rowIs Y 59 3 (OC (.string ⟨#[]⟩) (.int .i64 (k:Int)) (.int .i64 0)):=by
   rw[<-hV,<-hY];exact World.rowIs_alloc w4 #[.string ⟨#[]⟩,.int .i64 (k:Int),.int .i64 0] 59 _ (fun i hi=>by
   rcases(show i=0\/i=1\/i=2 by have:i<3:=hi;omega)with rfl|rfl|rfl<;>rfl)
  have hXY:X≠Y:=by have:=r4.lt;omega
  have hYR:Y≠RB:=by have:=HM4.b.lt;omega
  have hwY:w.heap.size<=Y:=by have:=r4.lt;have:=HX.out;omega
  have D1:BN E RB s A1 w V:=((HRS.next HB4.out HO4.out HM4.out).below hE hbV)
  have KM:Calls prog 84 #[.pointer (some ⟨RB,0,none⟩),.int .i64 64] V (AV E RB s V (fun(b:Nat)=>.int .i64 (b:Int)) (Bh 64 ((Aa s).drop A1) A1)):=CH E RB s A1 64 V D1.2.2 HL4.out hs (gH hE D1.2.1.1);have hR:=HRR.out;rw[HD4.out]at hR;try rw[hV]
  try rw[hY]
  clear hV hY hbV HRR KS' HB4 HO4 HM4 HD4 HR0 HRS;cases hq2:Bh 64 ((Aa s).drop A1) A1 with
  |error er=>
   obtain⟨er,at_⟩:=er;rw[Ah hq2]at hR;rw[hq2]at KM;have KM':=A6 KM;unfold AV AY at KM';simp only at KM';have HG:Hid (∀w',Below E V w'->AZ RB V w'->AV E RB s w pv R (AY er at_) w'):=fun w' a b=>by rw[<-hR];exact D1.bad pv er at_ a b
   unfold AY at HG;clear D1 KM hq2 hR rx ry r4;go_wp2_with(go_at_call 84;(with_reducible refine KM'.out.mono ?_);rintro e9 w5 ⟨rfl,hb5,ho5⟩;have HR5:=A6 (HG.out _ hb5 ho5);clear hb5 ho5);exact⟨rfl,HR5.out⟩
  |ok r=>
   obtain⟨N,l2,A2⟩:=r;have hN64:=CM hq2;rw[Ap hq2]at hR;rw[hq2]at KM;have KM':=A6 KM;unfold AV at KM';simp only at KM' hR;have KT:=A6 (fun(v:World) (a:Bq E RB s A2 v) (b:A2<=s.size) (c:E<=v.heap.size)=>Gj E RB s A2 N v a b hs oM c);have HD1:=A6 D1;have HRX:=A6 rx;have HRY:=A6 ry;have HRR:=A6 hR;clear D1 KM hq2 hR rx ry r4;cases hq3:By N ((Aa s).drop A2) A2 with
   |error er=>
    obtain⟨er,at_⟩:=er;rw[hq3]at KT;unfold AV AY at KT;simp only at KT;have HG:Hid (∀v w',l2=(Aa s).drop A2->Below E V v->AZ RB V v->Bq E RB s A2 v->Below E v w'->AZ RB v w'->AV E RB s w pv R (AY er at_) w'):=fun v w' e a b c d f=>by
     rw[<-HRR.out,e,Ah hq3];exact(HD1.next a b c).bad pv er at_ d f
    unfold AY at HG;clear hq3 HRR;go_wp2_with(first|(go_at_call 84;(with_reducible refine KM'.out.mono ?_);rintro e9 w5 ⟨rfl,hb5,ho5,hm5,hl5,hd5⟩;have KT5:=A6 (KT.out w5 hm5 hl5 (gH hE (HD1.out.2.1.trans ho5).1));have HG5:=A6 (fun w'=>HG.out w5 w' hd5 hb5 ho5 hm5);clear hb5 ho5 hm5 hl5 hd5)|(go_at_call 83;(with_reducible refine KT5.out.mono ?_);rintro e9 w6 ⟨rfl,hb6,ho6⟩;have HR5:=A6 (HG5.out _ hb6 ho6);clear hb6 ho6));exact⟨rfl,HR5.out⟩
   |ok r=>
    obtain⟨nm,l3,A3⟩:=r;have hnm:=Kx hq3;rw[hq3]at KT;unfold AV at KT;simp only at KT;have HR3:Hid (l2=(Aa s).drop A2->l3=(Aa s).drop A3->R=(Ac BJ fun m=>Ay (⟨AT nm,(k:Int),(m:Int)⟩:Be)) ((Aa s).drop A3) A3):=fun e f=>by rw[<-HRR.out,e,Ap hq3,f]
    have KC:=A6 (fun(v:World)=>Ic (AT nm) (by rw[Af];omega) v);have HG:Hid (∀w',Below E V w'->AZ RB V w'->Bq E RB s A3 w'->BN E RB s A3 w w'/\w'.rowIs X 59 3 (OC (.string ⟨#[]⟩) (.int .i64 0) (.int .i64 0))/\w'.rowIs Y 59 3 (OC (.string ⟨#[]⟩) (.int .i64 (k:Int)) (.int .i64 0))):=fun w' a b c=>⟨HD1.next a b c,AC b HRX.out hXR,AC b HRY.out hYR⟩
    have HVE:Hid (E<=V.heap.size):=gH hE HD1.2.1.1;obtain⟨nb,hnb⟩:=gA (AT nm)
    rw[hnb]at KT HR3 KC;clear hq3 HRR hnb hnm HRX HRY;go_upto_region 3 with(first|(go_at_call 84;(with_reducible refine KM'.out.mono ?_);rintro e9 w5 ⟨rfl,hb5,ho5,hm5,hl5,hd5⟩;have KT5:=A6 (KT.out w5 hm5 hl5 (gH HVE.out ho5.1));have HB5:=A6 hb5;have HO5:=A6 ho5;have HD5:=A6 hd5;clear hb5 ho5 hm5 hl5 hd5)|(go_at_call 83;(with_reducible refine KT5.out.mono ?_);rintro e9 w6 ⟨rfl,hb6,ho6,hm6,hl6,hd6⟩;have HB6:=A6 (HB5.out.trans hb6);have HO6:=A6 (HO5.out.trans ho6);have HM6:=A6 hm6;have HL6:=A6 hl6;have HD6:=A6 hd6;clear hb6 ho6 hm6 hl6 hd6)|(go_at_call 86;(with_reducible refine(KC.out _).mono ?_);rintro e9 w7 ⟨rfl,hb7⟩;obtain⟨D7,x7,z7⟩:=HG.out w7 (HB6.out.trans (hb7.mono (gH HVE.out HO6.out.1))) (HO6.out.trans (AZ.of hb7)) (HM6.out.below hb7);have y7:w7.cell? ⟨Y,0,none⟩=some (.string ⟨#[]⟩):=z7.cell (i:=0) dE;have f7:=z7.frozen 0;clear hb7))
    obtain⟨V2,hV2⟩:=gA (w7.setCell ⟨Y,0,none⟩ (.string nb))
    have x8:=x7.of_block (w':=V2) (by rw[<-hV2];exact gE hXY);have z8:V2.rowIs Y 59 3 (OC (.string nb) (.int .i64 (k:Int)) (.int .i64 0)):=by
     rw[<-hV2];exact(z7.set 0 (.string nb)).congr fun j hj=>by
      rcases(show j=0\/j=1\/j=2 by omega)with rfl|rfl|rfl<;>rfl
    have D8:BN E RB s A3 w V2:=by rw[<-hV2];exact D7.set hE HRB.out hwY 0 _
    have hR:=(HR3.out HD5.out HD6.out).symm;have KN:=Co E RB s A3 V2 D8.2.2 HL6.out hs (gH hE D8.2.1.1);try rw[hV2]
    clear hV2 D7 x7 z7 y7 f7 HG KC KT KT5 KM' HB5 HO5 HD5 HB6 HO6 HM6 HR3 HD1;cases hq4:BJ ((Aa s).drop A3) A3 with
    |error er=>
     obtain⟨er,at_⟩:=er;rw[Ah hq4]at hR;rw[hq4]at KN;have KN':=A6 KN;unfold AV AY at KN';simp only at KN';have HG:Hid (∀w',Below E V2 w'->AZ RB V2 w'->AV E RB s w pv R (AY er at_) w'):=fun w' a b=>by rw[<-hR];exact D8.bad pv er at_ a b
     unfold AY at HG;clear D8 KN hq4 hR x8 z8;exact QC
    |ok r=>
     obtain⟨n,l4,A4⟩:=r;rw[Ap hq4]at hR;rw[hq4]at KN;have KN':=A6 KN;unfold AV at KN';simp only at KN';have HG:Hid (∀w',Below E V2 w'->AZ RB V2 w'->Bq E RB s A4 w'->BN E RB s A4 w w'/\w'.rowIs X 59 3 (OC (.string ⟨#[]⟩) (.int .i64 0) (.int .i64 0))/\w'.rowIs Y 59 3 (OC (.string nb) (.int .i64 (k:Int)) (.int .i64 0))):=fun w' a b c=>⟨D8.next a b c,AC b x8 hXR,AC b z8 hYR⟩
     have HRR:Hid (R=.ok (⟨nb,(k:Int),(n:Int)⟩,l4,A4)):=hR.symm;clear D8 KN hq4 hR x8 z8;go_upto_region 4 with(go_at_call 87;(with_reducible refine KN'.out.mono ?_);rintro e9 w8 ⟨rfl,hb7,ho7,hm7,hl7,hd7⟩;obtain⟨D9,x9,z9⟩:=HG.out _ hb7 ho7 hm7;have HL7:=A6 hl7;have HD7:=A6 hd7;have y9:w8.cell? ⟨Y,2,none⟩=some (.int .i64 0):=z9.cell (i:=2) dE;have f9:=z9.frozen 2;clear hb7 ho7 hm7 hl7 hd7)
     obtain⟨V3,hV3⟩:=gA (w8.setCell ⟨Y,2,none⟩ (.int .i64 (n:Int)))
     have xa:=x9.of_block (w':=V3) Ot;have za:V3.rowIs Y 59 3 (OC (.string nb) (.int .i64 (k:Int)) (.int .i64 (n:Int))):=by
      rw[<-hV3];exact(z9.set 2 (.int .i64 (n:Int))).congr fun j hj=>by
       rcases(show j=0\/j=1\/j=2 by omega)with rfl|rfl|rfl<;>rfl
     have Da:BN E RB s A4 w V3:=by rw[<-hV3];exact D9.set hE HRB.out hwY 2 _
     have b0:V3.cell? ⟨Y,0,none⟩=some (.string nb):=za.cell (i:=0) dE;have b1:V3.cell? ⟨Y,1,none⟩=some (.int .i64 (k:Int)):=za.cell (i:=1) dE;have b2:V3.cell? ⟨Y,2,none⟩=some (.int .i64 (n:Int)):=za.cell (i:=2) dE;have x0:V3.cell? ⟨X,0,none⟩=some (.string ⟨#[]⟩):=xa.cell (i:=0) dE;have x1:V3.cell? ⟨X,1,none⟩=some (.int .i64 0):=xa.cell (i:=1) dE;have x2:V3.cell? ⟨X,2,none⟩=some (.int .i64 0):=xa.cell (i:=2) dE;have f0:=xa.frozen 0;have f1:=xa.frozen 1;have f2:=xa.frozen 2;have HD:=A6 (((Da.set hE HRB.out HX.out 0 (.string nb)).set hE HRB.out HX.out 1 (.int .i64 (k:Int))).set hE HRB.out HX.out 2 (.int .i64 (n:Int)));try rw[hV3]
     clear hV3 D9 Da x9 z9 xa za y9 f9 KN' HG;go_wp2;refine bodyPost_ret (by simp[results,results51,go_sem, *];try rfl) rfl ?_;rw[HRR.out];exact HD.fin HL7.out HD7.out
theorem M8(a b:ByteArray)(ha:b.size<=a.size)(hs:a.size<=1000)(w:World):
 Calls prog 82 #[.string a,.string b] w fun e w'=>e=.returned (.bool ((a.extract 0 b.size).toList==b.toList))/\w'=w:=by
 obtain⟨M,hM⟩:=gA (a.size)
 obtain⟨N,hN⟩:=gA (b.size)
 have e1:(N:Int)<=(M:Int):=oM;have e2:(0:Int)<=(N:Int):=oM;have e3:N<=M:=oM;rw[hN];clear ha;go_enter func82,ntmps82;go_wp2;refine bodyPost_ret (by simp[results,results82,go_sem, *];try rfl) rfl ?_;exact⟨rfl,rfl⟩
theorem GV{a b:ByteArray}(h:Aa a=Aa b):a=b:=by rw[<-Dv a,h,Dv]
theorem RY(a b:ByteArray):(a.toList==b.toList)=decide (Aa a=Aa b):=by
 have h:a.toList=b.toList↔Aa a=Aa b:=by
  rw[ByteArray.toList_eq,ByteArray.toList_eq];constructor
  .intro h;unfold Aa;rw[h]
  .intro h;rw[GV h]
 by_cases q:Aa a=Aa b
 .rw[decide_eq_true q,h.2 q];simp
 .rw[decide_eq_false q];simpa[<-h]using q
def PH:ByteArray:=⟨#[108,116,104,49]⟩
theorem PI:Aa PH=DQ:=rfl
theorem LP(E RB:Nat)(s:ByteArray)(w:World)(h:Bq E RB s 0 w)(hs:s.size<=140737488355328)(hE:E<=w.heap.size):
 Calls prog 49 #[.pointer (some ⟨RB,0,none⟩)] w (AV E RB s w (fun(_:Unit)=>.tuple #[]) (Fy (Aa s) 0)):=by
 obtain⟨N,hN⟩:=gA (s.size)
 obtain⟨K,hK⟩:=gA (min N 4)
 have hm:min (N:Int) 4=(K:Int):=oM;have hd:Below w.heap.size w w.drew:=(Below.refl _ _).drew;obtain⟨V,hV⟩:=gA (w.drew)
 rw[hV]at hd;have hmV:=h.below hd;have D1:BN E RB s 0 w V:=(BN.start h).below hE hd;obtain⟨t,ht⟩:=gA (s.extract 0 K)
 have htb:Aa t=(Aa s).take K:=by
  rw[<-ht];have h9:=CF s 0 K;rw[Nat.zero_add,List.drop_zero]at h9;exact h9
 have hts:t.size=K:=by rw[<-AD,htb,List.length_take,AD];omega
 have KP:Calls prog 82 #[.string PH,.string t] V fun e w'=>e=.returned (.bool (decide ((Aa s).take K=DQ.take K)))/\w'=V:=by
  refine(M8 PH t (by rw[hts];show K<=4;omega) dE V).mono ?_;rintro e w' ⟨e1,e2⟩;refine⟨?_,e2⟩;rw[e1,RY,hts,htb];have h9:=CF PH 0 K;rw[Nat.zero_add,List.drop_zero,PI]at h9;rw[h9];congr 2;exact decide_eq_decide.2 ⟨fun q=>q.symm,fun q=>q.symm⟩
 unfold PH at KP;have KT:Calls prog 83 #[.pointer (some ⟨RB,0,none⟩),.int .i64 4] V (AV E RB s V (fun l=>.string (AT l)) (By 4 ((Aa s).drop 0) 0)):=Gj E RB s 0 4 V hmV (gI _) hs dE (gH hE D1.2.1.1);rw[List.drop_zero]at KT;obtain⟨R,hR⟩:=gA (Fy (Aa s) 0)
 rw[hR];unfold Fy at hR;rw[AD,hN,hK]at hR;have c0:=h.c0;have i1:(0:Int)<=(K:Int):=oM;have i2:(K:Int)<=(N:Int):=oM;have i3:K<=N:=oM;have HD1:=A6 D1;have KP':=A6 KP;have KT':=A6 KT;have HT:=A6 ht;have HV:=A6 hV;clear h hd hmV D1 htb hts KP KT hV;by_cases q:(Aa s).take K=DQ.take K
 .rw[if_neg (by simpa using q)]at hR;rw[decide_eq_true q]at KP';by_cases q4:N<4
  .rw[if_pos q4]at hR;have h9:By 4 (Aa s) 0=.error (242,0):=by unfold By;rw[if_pos (by rw[AD,hN];exact q4)]
   rw[h9]at KT';unfold AV AY at KT';simp only at KT';have HG:Hid (∀w',Below E V w'->AZ RB V w'->AV E RB s w (fun(_:Unit)=>Value.tuple #[]) R (AY 242 0) w'):=fun w' a b=>by rw[<-hR];exact HD1.bad _ 242 0 a b
   unfold AY at HG;clear q q4 h9 hR hK;go_enter func49,ntmps49;go_upto_region 0 with fail;refine rG (fun v=>v.cell? ⟨RB,0,none⟩=some (.string s)) fun hJ=>?_;refine wpAnyH_take (i:=0) (v:=?_) A7 kR kR kR A8 (Or.inl ⟨rF,?_⟩) A9 ?_
   rotate_left 1
   ·(intro wS hSw;(try dsimp only at hSw);go_simp;try(with_reducible rfl))
   try simp only[Act.put,List.setIfInBounds_toArray,List.set_cons_zero,List.set_cons_succ]
   refine wpAnyH_take (i:=1) (v:=?_) A7 kR kR kR A8 (Or.inl ⟨rF,?_⟩) A9 ?_
   rotate_left 1
   ·(intro wS hSw;(try dsimp only at hSw);go_simp;try(with_reducible rfl))
   try simp only[Act.put,List.setIfInBounds_toArray,List.set_cons_zero,List.set_cons_succ]
   refine wpAnyH_take (i:=2) (v:=?_) A7 kR kR kR A8 (Or.inl ⟨rF,?_⟩) A9 ?_
   rotate_left 1
   ·(intro wS hSw;(try dsimp only at hSw);go_simp;try(with_reducible rfl))
   try simp only[Act.put,List.setIfInBounds_toArray,List.set_cons_zero,List.set_cons_succ]
   refine wpAnyH_take (i:=3) (v:=?_) A7 kR kR kR A8 (Or.inl ⟨rF,?_⟩) A9 ?_
   rotate_left 1
   ·(intro wS hSw;(try dsimp only at hSw);go_simp;try(with_reducible rfl))
   try simp only[Act.put,List.setIfInBounds_toArray,List.set_cons_zero,List.set_cons_succ]
   refine wpAnyH_take (i:=4) (v:=?_) A7 kR kR kR A8 (Or.inl ⟨rF,?_⟩) A9 ?_
   rotate_left 1
   ·(intro wS hSw;(try dsimp only at hSw);go_simp;try(with_reducible rfl))
   try simp only[Act.put,List.setIfInBounds_toArray,List.set_cons_zero,List.set_cons_succ]
   refine wpAnyH_take (i:=5) (v:=?_) A7 kR kR kR A8 (Or.inl ⟨rF,?_⟩) A9 ?_
   rotate_left 1
   ·(intro wS hSw;(try dsimp only at hSw);go_simp;try(with_reducible rfl))
   try simp only[Act.put,List.setIfInBounds_toArray,List.set_cons_zero,List.set_cons_succ]
   refine wpAnyH_take (i:=6) (v:=?_) A7 kR kR kR A8 (Or.inl ⟨rF,?_⟩) A9 ?_
   rotate_left 1
   ·(intro wS hSw;(try dsimp only at hSw);go_simp;try(with_reducible rfl))
   try simp only[Act.put,List.setIfInBounds_toArray,List.set_cons_zero,List.set_cons_succ]
   refine wpAnyH_take (i:=7) (v:=?_) A7 kR kR kR A8 (Or.inl ⟨rF,?_⟩) A9 ?_
   rotate_left 1
   ·(intro wS hSw;(try dsimp only at hSw);go_simp;try(with_reducible rfl))
   try simp only[Act.put,List.setIfInBounds_toArray,List.set_cons_zero,List.set_cons_succ]
   refine wpAnyH_take (i:=8) (v:=?_) A7 kR kR kR A8 (Or.inl ⟨rF,?_⟩) A9 ?_
   rotate_left 1
   ·(intro wS hSw;(try dsimp only at hSw);go_simp;try(with_reducible rfl))
   try simp only[Act.put,List.setIfInBounds_toArray,List.set_cons_zero,List.set_cons_succ]
   clear hJ;refine AR 9 fun K hK=>?_;go_simp;refine AX hK fun hJ=>?_;clear hK K;refine wpAnyH_take (i:=10) (v:=?_) A7 kR kR kR A8 (Or.inl ⟨rF,?_⟩) A9 ?_
   rotate_left 1
   ·(intro wS hSw;(try dsimp only at hSw);go_simp;try(with_reducible rfl))
   try simp only[Act.put,List.setIfInBounds_toArray,List.set_cons_zero,List.set_cons_succ]
   refine wpAnyH_take (i:=11) (v:=?_) A7 kR kR kR A8 (Or.inl ⟨rF,?_⟩) A9 ?_
   rotate_left 1
   ·(intro wS hSw;(try dsimp only at hSw);go_simp;try(with_reducible rfl))
   try simp only[Act.put,List.setIfInBounds_toArray,List.set_cons_zero,List.set_cons_succ]
   refine wpAnyH_done kR ?_ _;rw[HV.out];try rw[HT.out]
   clear c0 ht;go_wp2_with(first|(go_at_call 82;(with_reducible refine KP'.out.mono ?_);rintro e9 w4 ⟨rfl,rfl⟩)|(go_at_call 83;(with_reducible refine KT'.out.mono ?_);rintro e9 w5 ⟨rfl,hb5,ho5⟩;have HR5:=A6 (HG.out _ hb5 ho5);clear hb5 ho5));exact⟨rfl,HR5.out⟩
  .rw[if_neg q4]at hR;have h9:By 4 (Aa s) 0=.ok ((Aa s).take 4,(Aa s).drop 4,4):=by unfold By;rw[if_neg (by rw[AD,hN];exact q4)]
   rw[h9]at KT';unfold AV at KT';simp only at KT';have HG:Hid (∀w',Below E V w'->AZ RB V w'->Bq E RB s 4 w'->AV E RB s w (fun(_:Unit)=>Value.tuple #[]) R (.returned (.tuple #[])) w'):=fun w' a b c=>by rw[<-hR];exact(HD1.next a b c).fin (val:=fun(_:Unit)=>Value.tuple #[]) (by rw[hN];omega) rfl
   clear q q4 h9 hR hK;go_enter func49,ntmps49;go_upto_region 0 with fail;refine rG (fun v=>v.cell? ⟨RB,0,none⟩=some (.string s)) fun hJ=>?_;refine wpAnyH_take (i:=0) (v:=?_) A7 kR kR kR A8 (Or.inl ⟨rF,?_⟩) A9 ?_
   rotate_left 1
   ·(intro wS hSw;(try dsimp only at hSw);go_simp;try(with_reducible rfl))
   try simp only[Act.put,List.setIfInBounds_toArray,List.set_cons_zero,List.set_cons_succ]
   refine wpAnyH_take (i:=1) (v:=?_) A7 kR kR kR A8 (Or.inl ⟨rF,?_⟩) A9 ?_
   rotate_left 1
   ·(intro wS hSw;(try dsimp only at hSw);go_simp;try(with_reducible rfl))
   try simp only[Act.put,List.setIfInBounds_toArray,List.set_cons_zero,List.set_cons_succ]
   refine wpAnyH_take (i:=2) (v:=?_) A7 kR kR kR A8 (Or.inl ⟨rF,?_⟩) A9 ?_
   rotate_left 1
   ·(intro wS hSw;(try dsimp only at hSw);go_simp;try(with_reducible rfl))
   try simp only[Act.put,List.setIfInBounds_toArray,List.set_cons_zero,List.set_cons_succ]
   refine wpAnyH_take (i:=3) (v:=?_) A7 kR kR kR A8 (Or.inl ⟨rF,?_⟩) A9 ?_
   rotate_left 1
   ·(intro wS hSw;(try dsimp only at hSw);go_simp;try(with_reducible rfl))
   try simp only[Act.put,List.setIfInBounds_toArray,List.set_cons_zero,List.set_cons_succ]
   refine wpAnyH_take (i:=4) (v:=?_) A7 kR kR kR A8 (Or.inl ⟨rF,?_⟩) A9 ?_
   rotate_left 1
   ·(intro wS hSw;(try dsimp only at hSw);go_simp;try(with_reducible rfl))
   try simp only[Act.put,List.setIfInBounds_toArray,List.set_cons_zero,List.set_cons_succ]
   refine wpAnyH_take (i:=5) (v:=?_) A7 kR kR kR A8 (Or.inl ⟨rF,?_⟩) A9 ?_
   rotate_left 1
   ·(intro wS hSw;(try dsimp only at hSw);go_simp;try(with_reducible rfl))
   try simp only[Act.put,List.setIfInBounds_toArray,List.set_cons_zero,List.set_cons_succ]
   refine wpAnyH_take (i:=6) (v:=?_) A7 kR kR kR A8 (Or.inl ⟨rF,?_⟩) A9 ?_
   rotate_left 1
   ·(intro wS hSw;(try dsimp only at hSw);go_simp;try(with_reducible rfl))
   try simp only[Act.put,List.setIfInBounds_toArray,List.set_cons_zero,List.set_cons_succ]
   refine wpAnyH_take (i:=7) (v:=?_) A7 kR kR kR A8 (Or.inl ⟨rF,?_⟩) A9 ?_
   rotate_left 1
   ·(intro wS hSw;(try dsimp only at hSw);go_simp;try(with_reducible rfl))
   try simp only[Act.put,List.setIfInBounds_toArray,List.set_cons_zero,List.set_cons_succ]
   refine wpAnyH_take (i:=8) (v:=?_) A7 kR kR kR A8 (Or.inl ⟨rF,?_⟩) A9 ?_
   rotate_left 1
   ·(intro wS hSw;(try dsimp only at hSw);go_simp;try(with_reducible rfl))
   try simp only[Act.put,List.setIfInBounds_toArray,List.set_cons_zero,List.set_cons_succ]
   clear hJ;refine AR 9 fun K hK=>?_;go_simp;refine AX hK fun hJ=>?_;clear hK K;refine wpAnyH_take (i:=10) (v:=?_) A7 kR kR kR A8 (Or.inl ⟨rF,?_⟩) A9 ?_
   rotate_left 1
   ·(intro wS hSw;(try dsimp only at hSw);go_simp;try(with_reducible rfl))
   try simp only[Act.put,List.setIfInBounds_toArray,List.set_cons_zero,List.set_cons_succ]
   refine wpAnyH_take (i:=11) (v:=?_) A7 kR kR kR A8 (Or.inl ⟨rF,?_⟩) A9 ?_
   rotate_left 1
   ·(intro wS hSw;(try dsimp only at hSw);go_simp;try(with_reducible rfl))
   try simp only[Act.put,List.setIfInBounds_toArray,List.set_cons_zero,List.set_cons_succ]
   refine wpAnyH_done kR ?_ _;rw[HV.out];try rw[HT.out]
   clear c0 ht;go_wp2_with(first|(go_at_call 82;(with_reducible refine KP'.out.mono ?_);rintro e9 w4 ⟨rfl,rfl⟩)|(go_at_call 83;(with_reducible refine KT'.out.mono ?_);rintro e9 w5 ⟨rfl,hb5,ho5,hm5,hl5,hd5⟩;have HR5:=A6 (HG.out _ hb5 ho5 hm5);clear hb5 ho5 hm5 hl5 hd5));first|go_end0|refine bodyPost_ret (results_none rfl _ _ _) rfl ?_|(simp only[Exit.inBlock,Exit.then];refine bodyPost_ret (results_none rfl _ _ _) rfl ?_)
   exact HR5.out
 .rw[if_pos (by simpa using q)]at hR;rw[decide_eq_false q]at KP';have HG:Hid (AV E RB s w (fun(_:Unit)=>Value.tuple #[]) R (AY 240 0) V):=by show AV _ _ _ _ _ _ _ _;rw[<-hR];exact HD1.bad _ 240 0 (Below.refl _ _) (AZ.refl _ _)
  unfold AY at HG;clear q hR hK;go_enter func49,ntmps49;go_upto_region 0 with fail;refine rG (fun v=>v.cell? ⟨RB,0,none⟩=some (.string s)) fun hJ=>?_;refine wpAnyH_take (i:=0) (v:=?_) A7 kR kR kR A8 (Or.inl ⟨rF,?_⟩) A9 ?_
  rotate_left 1
  ·(intro wS hSw;(try dsimp only at hSw);go_simp;try(with_reducible rfl))
  try simp only[Act.put,List.setIfInBounds_toArray,List.set_cons_zero,List.set_cons_succ]
  refine wpAnyH_take (i:=1) (v:=?_) A7 kR kR kR A8 (Or.inl ⟨rF,?_⟩) A9 ?_
  rotate_left 1
  ·(intro wS hSw;(try dsimp only at hSw);go_simp;try(with_reducible rfl))
  try simp only[Act.put,List.setIfInBounds_toArray,List.set_cons_zero,List.set_cons_succ]
  refine wpAnyH_take (i:=2) (v:=?_) A7 kR kR kR A8 (Or.inl ⟨rF,?_⟩) A9 ?_
  rotate_left 1
  ·(intro wS hSw;(try dsimp only at hSw);go_simp;try(with_reducible rfl))
  try simp only[Act.put,List.setIfInBounds_toArray,List.set_cons_zero,List.set_cons_succ]
  refine wpAnyH_take (i:=3) (v:=?_) A7 kR kR kR A8 (Or.inl ⟨rF,?_⟩) A9 ?_
  rotate_left 1
  ·(intro wS hSw;(try dsimp only at hSw);go_simp;try(with_reducible rfl))
  try simp only[Act.put,List.setIfInBounds_toArray,List.set_cons_zero,List.set_cons_succ]
  refine wpAnyH_take (i:=4) (v:=?_) A7 kR kR kR A8 (Or.inl ⟨rF,?_⟩) A9 ?_
  rotate_left 1
  ·(intro wS hSw;(try dsimp only at hSw);go_simp;try(with_reducible rfl))
  try simp only[Act.put,List.setIfInBounds_toArray,List.set_cons_zero,List.set_cons_succ]
  refine wpAnyH_take (i:=5) (v:=?_) A7 kR kR kR A8 (Or.inl ⟨rF,?_⟩) A9 ?_
  rotate_left 1
  ·(intro wS hSw;(try dsimp only at hSw);go_simp;try(with_reducible rfl))
  try simp only[Act.put,List.setIfInBounds_toArray,List.set_cons_zero,List.set_cons_succ]
  refine wpAnyH_take (i:=6) (v:=?_) A7 kR kR kR A8 (Or.inl ⟨rF,?_⟩) A9 ?_
  rotate_left 1
  ·(intro wS hSw;(try dsimp only at hSw);go_simp;try(with_reducible rfl))
  try simp only[Act.put,List.setIfInBounds_toArray,List.set_cons_zero,List.set_cons_succ]
  refine wpAnyH_take (i:=7) (v:=?_) A7 kR kR kR A8 (Or.inl ⟨rF,?_⟩) A9 ?_
  rotate_left 1
  ·(intro wS hSw;(try dsimp only at hSw);go_simp;try(with_reducible rfl))
  try simp only[Act.put,List.setIfInBounds_toArray,List.set_cons_zero,List.set_cons_succ]
  refine wpAnyH_take (i:=8) (v:=?_) A7 kR kR kR A8 (Or.inl ⟨rF,?_⟩) A9 ?_
  rotate_left 1
  ·(intro wS hSw;(try dsimp only at hSw);go_simp;try(with_reducible rfl))
  try simp only[Act.put,List.setIfInBounds_toArray,List.set_cons_zero,List.set_cons_succ]
  clear hJ;refine AR 9 fun K hK=>?_;go_simp;refine AX hK fun hJ=>?_;clear hK K;refine wpAnyH_take (i:=10) (v:=?_) A7 kR kR kR A8 (Or.inl ⟨rF,?_⟩) A9 ?_
  rotate_left 1
  ·(intro wS hSw;(try dsimp only at hSw);go_simp;try(with_reducible rfl))
  try simp only[Act.put,List.setIfInBounds_toArray,List.set_cons_zero,List.set_cons_succ]
  refine wpAnyH_take (i:=11) (v:=?_) A7 kR kR kR A8 (Or.inl ⟨rF,?_⟩) A9 ?_
  rotate_left 1
  ·(intro wS hSw;(try dsimp only at hSw);go_simp;try(with_reducible rfl))
  try simp only[Act.put,List.setIfInBounds_toArray,List.set_cons_zero,List.set_cons_succ]
  refine wpAnyH_done kR ?_ _;rw[HV.out];try rw[HT.out]
  clear c0 ht;go_wp2_with(go_at_call 82;(with_reducible refine KP'.out.mono ?_);rintro e9 w4 ⟨rfl,rfl⟩);exact⟨rfl,HG.out⟩
theorem M6{k:Nat}{l:List Nat}{p:Nat}{e:Int×Nat}(h:Cc k l p=.error e):l.length<k/\e=(242,p):=by
 unfold Cc Ac By at h;by_cases q:l.length<k
 .rw[if_pos q]at h;simp only[Except.error.injEq]at h;exact⟨q,h.symm⟩
 .rw[if_neg q]at h;cases h
theorem Kw{k:Nat}{l l':List Nat}{p p' n:Nat}(h:Cc k l p=.ok (n,l',p')):¬l.length<k/\n=BS (l.take k)/\l'=l.drop k/\p'=p+k:=by
 unfold Cc Ac By at h;by_cases q:l.length<k
 .rw[if_pos q]at h;cases h
 .rw[if_neg q]at h;unfold Ay at h;simp only[Except.ok.injEq,Prod.mk.injEq]at h;exact⟨q,h.1.symm,h.2.1.symm,h.2.2.symm⟩
theorem Mc(E RB:Nat)(s:ByteArray)(A:Nat)(w:World)(h:Bq E RB s A w)(hA:A<=s.size)(hs:s.size<=140737488355328)(hE:E<=w.heap.size):
 Calls prog 27 #[.pointer (some ⟨RB,0,none⟩)] w (AV E RB s w (fun(_:Unit)=>.tuple #[]) (Kv (Aa s) ((Aa s).drop A) A)):=by
 obtain⟨N,hN⟩:=gA (s.size)
 have hd:Below w.heap.size w w.drew:=(Below.refl _ _).drew;obtain⟨V,hV⟩:=gA (w.drew)
 rw[hV]at hd;have hmV:=h.below hd;have D1:BN E RB s A w V:=(BN.start h).below hE hd;have KN:Calls prog 58 #[.pointer (some ⟨RB,0,none⟩),.int .i64 8] V (AV E RB s V (fun(b:Nat)=>.int .u64 (b:Int)) (Cc 8 ((Aa s).drop A) A)):=G8 E RB s A 8 dE V hmV hA hs (gH hE D1.2.1.1);obtain⟨R,hR⟩:=gA (Kv (Aa s) ((Aa s).drop A) A)
 rw[hR];unfold Kv at hR;have c0:=h.c0;have c1:=h.c1;have v0:=hmV.c0;have i1:(0:Int)<=(A:Int):=oM;have i2:(A:Int)<=(N:Int):=oM;have i3:A<=N:=oM;have HV:=A6 hV;have HD1:=A6 D1;clear h hd hmV D1 hV;cases hq:Cc 8 ((Aa s).drop A) A with
 |error er=>
  obtain⟨er,at_⟩:=er;obtain⟨h1,h2⟩:=M6 hq;simp only[Prod.mk.injEq]at h2;obtain⟨rfl,rfl⟩:=h2;rw[if_pos h1]at hR;rw[hq]at KN;have KN':=A6 KN;unfold AV AY at KN';simp only at KN';have HG:Hid (∀w',Below E V w'->AZ RB V w'->AV E RB s w (fun(_:Unit)=>Value.tuple #[]) R (AY 242 at_) w'):=fun w' a b=>by rw[<-hR];exact HD1.bad _ 242 at_ a b
  unfold AY at HG;obtain⟨t,ht⟩:=gA (s.extract 0 at_)
  clear KN hq hR h1;go_enter func27,ntmps27;go_upto_region 1 with fail;refine rG (fun v=>v.cell? ⟨RB,0,none⟩=some (.string s)) fun hJ=>?_;refine wpAnyH_take (i:=0) (v:=?_) A7 kR kR kR A8 (Or.inl ⟨rF,?_⟩) A9 ?_
  rotate_left 1
  ·(intro wS hSw;(try dsimp only at hSw);go_simp;try(with_reducible rfl))
  try simp only[Act.put,List.setIfInBounds_toArray,List.set_cons_zero,List.set_cons_succ]
  refine wpAnyH_take (i:=2) (v:=?_) A7 kR kR kR A8 (Or.inl ⟨rF,?_⟩) A9 ?_
  rotate_left 1
  ·(intro wS hSw;(try dsimp only at hSw);go_simp;try(with_reducible rfl))
  try simp only[Act.put,List.setIfInBounds_toArray,List.set_cons_zero,List.set_cons_succ]
  refine wpAnyH_take (i:=3) (v:=?_) A7 kR kR kR A8 (Or.inl ⟨rF,?_⟩) A9 ?_
  rotate_left 1
  ·(intro wS hSw;(try dsimp only at hSw);go_simp;try(with_reducible rfl))
  try simp only[Act.put,List.setIfInBounds_toArray,List.set_cons_zero,List.set_cons_succ]
  refine wpAnyH_take (i:=4) (v:=?_) A7 kR kR kR A8 (Or.inl ⟨rF,?_⟩) A9 ?_
  rotate_left 1
  ·(intro wS hSw;(try dsimp only at hSw);go_simp;try(with_reducible rfl))
  try simp only[Act.put,List.setIfInBounds_toArray,List.set_cons_zero,List.set_cons_succ]
  refine wpAnyH_take (i:=5) (v:=?_) A7 kR kR kR A8 (Or.inl ⟨rF,?_⟩) A9 ?_
  rotate_left 1
  ·(intro wS hSw;(try dsimp only at hSw);go_simp;try(with_reducible rfl))
  try simp only[Act.put,List.setIfInBounds_toArray,List.set_cons_zero,List.set_cons_succ]
  refine wpAnyH_take (i:=6) (v:=?_) A7 kR kR kR A8 (Or.inl ⟨rF,?_⟩) A9 ?_
  rotate_left 1
  ·(intro wS hSw;(try dsimp only at hSw);go_simp;try(with_reducible rfl))
  try simp only[Act.put,List.setIfInBounds_toArray,List.set_cons_zero,List.set_cons_succ]
  refine wpAnyH_take (i:=7) (v:=?_) A7 kR kR kR A8 (Or.inl ⟨rF,?_⟩) A9 ?_
  rotate_left 1
  ·(intro wS hSw;(try dsimp only at hSw);go_simp;try(with_reducible rfl))
  try simp only[Act.put,List.setIfInBounds_toArray,List.set_cons_zero,List.set_cons_succ]
  clear hJ;refine AR 1 fun K hK=>?_;go_simp;(go_at_call 58;(rw[HV.out]);(with_reducible refine KN'.out.mono ?_);rintro e9 w5 ⟨rfl,hb5,ho5⟩;have HR5:=A6 (HG.out _ hb5 ho5);clear hb5 ho5);try(go_wp2_with fail)
  exact⟨rfl,HR5.out⟩
 |ok r=>
  obtain⟨n,l',A'⟩:=r;obtain⟨h1,h2,h3,h4⟩:=Kw hq;subst h4;rw[if_neg h1,<-h2,List.length_drop,AD,hN]at hR;rw[hq]at KN;have KN':=A6 KN;unfold AV at KN';simp only at KN';obtain⟨t,ht⟩:=gA (s.extract 0 A)
  have htb:Aa t=(Aa s).take A:=by
   rw[<-ht];have h9:=CF s 0 A;rw[Nat.zero_add,List.drop_zero]at h9;exact h9
  have hts:t.size<=140737488355328:=by rw[<-AD,htb,List.length_take,AD];omega
  have KP:=A6 (fun v=>DU t hts v);rw[htb]at KP;have h8:A+8<=N:=by rw[List.length_drop,AD]at h1;omega
  obtain⟨C,hC⟩:=gA (I1 ((Aa s).take A))
  rw[hC]at KP hR;obtain⟨P,hP⟩:=gA (A+8)
  rw[hP]at KN';have HG:Hid (∀w',Below E V w'->AZ RB V w'->Bq E RB s P w'->BN E RB s P w w'):=fun w' a b c=>HD1.next a b c;by_cases q:n=C
  .subst q;rw[if_neg sM]at hR;by_cases q8:P<N
   .rw[if_pos oM,hP]at hR;have e1:(P:Int)<(N:Int):=oM;have HG2:Hid (∀w',BN E RB s P w w'->AV E RB s w (fun(_:Unit)=>Value.tuple #[]) R (AY 244 P) w'.drew):=fun w' a=>by rw[<-hR];exact a.bad _ 244 P ((Below.refl _ _).drew.mono (gH hE a.2.1.1)) (AZ.of (Below.refl _ _).drew)
    unfold AY at HG2;clear hq hR h1 h2 h3 hC hP htb hts KN;go_enter func27,ntmps27;go_upto_region 1 with fail;refine rG (fun v=>v.cell? ⟨RB,0,none⟩=some (.string s)) fun hJ=>?_;refine wpAnyH_take (i:=0) (v:=?_) A7 kR kR kR A8 (Or.inl ⟨rF,?_⟩) A9 ?_
    rotate_left 1
    ·(intro wS hSw;(try dsimp only at hSw);go_simp;try(with_reducible rfl))
    try simp only[Act.put,List.setIfInBounds_toArray,List.set_cons_zero,List.set_cons_succ]
    refine wpAnyH_take (i:=2) (v:=?_) A7 kR kR kR A8 (Or.inl ⟨rF,?_⟩) A9 ?_
    rotate_left 1
    ·(intro wS hSw;(try dsimp only at hSw);go_simp;try(with_reducible rfl))
    try simp only[Act.put,List.setIfInBounds_toArray,List.set_cons_zero,List.set_cons_succ]
    refine wpAnyH_take (i:=3) (v:=?_) A7 kR kR kR A8 (Or.inl ⟨rF,?_⟩) A9 ?_
    rotate_left 1
    ·(intro wS hSw;(try dsimp only at hSw);go_simp;try(with_reducible rfl))
    try simp only[Act.put,List.setIfInBounds_toArray,List.set_cons_zero,List.set_cons_succ]
    refine wpAnyH_take (i:=4) (v:=?_) A7 kR kR kR A8 (Or.inl ⟨rF,?_⟩) A9 ?_
    rotate_left 1
    ·(intro wS hSw;(try dsimp only at hSw);go_simp;try(with_reducible rfl))
    try simp only[Act.put,List.setIfInBounds_toArray,List.set_cons_zero,List.set_cons_succ]
    refine wpAnyH_take (i:=5) (v:=?_) A7 kR kR kR A8 (Or.inl ⟨rF,?_⟩) A9 ?_
    rotate_left 1
    ·(intro wS hSw;(try dsimp only at hSw);go_simp;try(with_reducible rfl))
    try simp only[Act.put,List.setIfInBounds_toArray,List.set_cons_zero,List.set_cons_succ]
    refine wpAnyH_take (i:=6) (v:=?_) A7 kR kR kR A8 (Or.inl ⟨rF,?_⟩) A9 ?_
    rotate_left 1
    ·(intro wS hSw;(try dsimp only at hSw);go_simp;try(with_reducible rfl))
    try simp only[Act.put,List.setIfInBounds_toArray,List.set_cons_zero,List.set_cons_succ]
    refine wpAnyH_take (i:=7) (v:=?_) A7 kR kR kR A8 (Or.inl ⟨rF,?_⟩) A9 ?_
    rotate_left 1
    ·(intro wS hSw;(try dsimp only at hSw);go_simp;try(with_reducible rfl))
    try simp only[Act.put,List.setIfInBounds_toArray,List.set_cons_zero,List.set_cons_succ]
    clear hJ;refine AR 1 fun K hK=>?_;go_simp;(go_at_call 58;(rw[HV.out]);(with_reducible refine KN'.out.mono ?_);rintro e9 w5 ⟨rfl,hb5,ho5,hm5,hl5,hd5⟩;have HB5:=A6 hb5;have HO5:=A6 ho5;have HM5:=A6 hm5;have d0:=hm5.c0;clear hb5 ho5 hm5 hl5 hd5);try(go_wp2_with fail)
    refine AX hK fun hJ=>?_;clear hK K;clear hJ;refine AR 8 fun K hK=>?_;go_simp;(go_at_call 19;(with_reducible refine(KP.out _).mono ?_);rintro e9 w6 ⟨rfl,rfl⟩);try(go_wp2_with fail)
    refine AX hK fun hJ=>?_;clear hK K;refine wpAnyH_take (i:=9) (v:=?_) A7 kR kR kR A8 (Or.inl ⟨rF,?_⟩) A9 ?_
    rotate_left 1
    ·(intro wS hSw;(try dsimp only at hSw);go_simp;try(with_reducible rfl))
    try simp only[Act.put,List.setIfInBounds_toArray,List.set_cons_zero,List.set_cons_succ]
    refine wpAnyH_done kR ?_ _;clear ht c0 c1 v0;have hm5:=HM5.out;have g0:=hm5.c0;have g1:=hm5.c1;have HGG:=A6 (HG2.out _ (HG.out _ HB5.out HO5.out HM5.out));have k1:w6.drew.cell? ⟨RB,1,none⟩=some (.int .i64 (P:Int)):=(hm5.below (Below.refl _ _).drew).c1;clear hm5;go_upto_region 3 with fail;refine rG (fun v=>v.cell? ⟨RB,0,none⟩=some (.string s)/\v.cell? ⟨RB,1,none⟩=some (.int .i64 (P:Int))) fun hJ=>?_;refine wpAnyH_take (i:=0) (v:=?_) A7 kR kR kR A8 (Or.inl ⟨rF,?_⟩) A9 ?_
    rotate_left 1
    ·(intro wS hSw;(try dsimp only at hSw);go_simp;try(with_reducible rfl))
    try simp only[Act.put,List.setIfInBounds_toArray,List.set_cons_zero,List.set_cons_succ]
    refine wpAnyH_take (i:=1) (v:=?_) A7 kR kR kR A8 (Or.inl ⟨rF,?_⟩) A9 ?_
    rotate_left 1
    ·(intro wS hSw;(try dsimp only at hSw);go_simp;try(with_reducible rfl))
    try simp only[Act.put,List.setIfInBounds_toArray,List.set_cons_zero,List.set_cons_succ]
    refine wpAnyH_take (i:=2) (v:=?_) A7 kR kR kR A8 (Or.inl ⟨rF,?_⟩) A9 ?_
    rotate_left 1
    ·(intro wS hSw;(try dsimp only at hSw);go_simp;try(with_reducible rfl))
    try simp only[Act.put,List.setIfInBounds_toArray,List.set_cons_zero,List.set_cons_succ]
    refine wpAnyH_take (i:=3) (v:=?_) A7 kR kR kR A8 (Or.inl ⟨rF,?_⟩) A9 ?_
    rotate_left 1
    ·(intro wS hSw;(try dsimp only at hSw);go_simp;try(with_reducible rfl))
    try simp only[Act.put,List.setIfInBounds_toArray,List.set_cons_zero,List.set_cons_succ]
    refine wpAnyH_take (i:=4) (v:=?_) A7 kR kR kR A8 (Or.inl ⟨rF,?_⟩) A9 ?_
    rotate_left 1
    ·(intro wS hSw;(try dsimp only at hSw);go_simp;try(with_reducible rfl))
    try simp only[Act.put,List.setIfInBounds_toArray,List.set_cons_zero,List.set_cons_succ]
    refine wpAnyH_take (i:=5) (v:=?_) A7 kR kR kR A8 (Or.inl ⟨rF,?_⟩) A9 ?_
    rotate_left 1
    ·(intro wS hSw;(try dsimp only at hSw);go_simp;try(with_reducible rfl))
    try simp only[Act.put,List.setIfInBounds_toArray,List.set_cons_zero,List.set_cons_succ]
    refine wpAnyH_take (i:=6) (v:=?_) A7 kR kR kR A8 (Or.inl ⟨rF,?_⟩) A9 ?_
    rotate_left 1
    ·(intro wS hSw;(try dsimp only at hSw);go_simp;try(with_reducible rfl))
    try simp only[Act.put,List.setIfInBounds_toArray,List.set_cons_zero,List.set_cons_succ]
    refine wpAnyH_take (i:=7) (v:=?_) A7 kR kR kR A8 (Or.inl ⟨rF,?_⟩) A9 ?_
    rotate_left 1
    ·(intro wS hSw;(try dsimp only at hSw);go_simp;try(with_reducible rfl))
    try simp only[Act.put,List.setIfInBounds_toArray,List.set_cons_zero,List.set_cons_succ]
    refine wpAnyH_take (i:=8) (v:=?_) A7 kR kR kR A8 (Or.inl ⟨rF,?_⟩) A9 ?_
    rotate_left 1
    ·(intro wS hSw;(try dsimp only at hSw);go_simp;try(with_reducible rfl))
    try simp only[Act.put,List.setIfInBounds_toArray,List.set_cons_zero,List.set_cons_succ]
    refine wpAnyH_take (i:=9) (v:=?_) A7 kR kR kR A8 (Or.inl ⟨rF,?_⟩) A9 ?_
    rotate_left 1
    ·(intro wS hSw;(try dsimp only at hSw);go_simp;try(with_reducible rfl))
    try simp only[Act.put,List.setIfInBounds_toArray,List.set_cons_zero,List.set_cons_succ]
    refine wpAnyH_done kR ?_ _;go_wp2;exact⟨rfl,HGG.out⟩
   .rw[if_neg oM,hP]at hR;have e1:¬ (P:Int)<(N:Int):=oM;have HG2:Hid (∀w',BN E RB s P w w'->AV E RB s w (fun(_:Unit)=>Value.tuple #[]) R (.returned (.tuple #[])) w'.drew):=fun w' a=>by rw[<-hR];exact(a.below hE (Below.refl _ _).drew).fin (val:=fun(_:Unit)=>Value.tuple #[]) (by rw[hN];omega) (by rw[List.drop_drop,hP])
    clear hq hR h1 h2 h3 hC hP htb hts KN;go_enter func27,ntmps27;go_upto_region 1 with fail;refine rG (fun v=>v.cell? ⟨RB,0,none⟩=some (.string s)) fun hJ=>?_;refine wpAnyH_take (i:=0) (v:=?_) A7 kR kR kR A8 (Or.inl ⟨rF,?_⟩) A9 ?_
    rotate_left 1
    ·(intro wS hSw;(try dsimp only at hSw);go_simp;try(with_reducible rfl))
    try simp only[Act.put,List.setIfInBounds_toArray,List.set_cons_zero,List.set_cons_succ]
    refine wpAnyH_take (i:=2) (v:=?_) A7 kR kR kR A8 (Or.inl ⟨rF,?_⟩) A9 ?_
    rotate_left 1
    ·(intro wS hSw;(try dsimp only at hSw);go_simp;try(with_reducible rfl))
    try simp only[Act.put,List.setIfInBounds_toArray,List.set_cons_zero,List.set_cons_succ]
    refine wpAnyH_take (i:=3) (v:=?_) A7 kR kR kR A8 (Or.inl ⟨rF,?_⟩) A9 ?_
    rotate_left 1
    ·(intro wS hSw;(try dsimp only at hSw);go_simp;try(with_reducible rfl))
    try simp only[Act.put,List.setIfInBounds_toArray,List.set_cons_zero,List.set_cons_succ]
    refine wpAnyH_take (i:=4) (v:=?_) A7 kR kR kR A8 (Or.inl ⟨rF,?_⟩) A9 ?_
    rotate_left 1
    ·(intro wS hSw;(try dsimp only at hSw);go_simp;try(with_reducible rfl))
    try simp only[Act.put,List.setIfInBounds_toArray,List.set_cons_zero,List.set_cons_succ]
    refine wpAnyH_take (i:=5) (v:=?_) A7 kR kR kR A8 (Or.inl ⟨rF,?_⟩) A9 ?_
    rotate_left 1
    ·(intro wS hSw;(try dsimp only at hSw);go_simp;try(with_reducible rfl))
    try simp only[Act.put,List.setIfInBounds_toArray,List.set_cons_zero,List.set_cons_succ]
    refine wpAnyH_take (i:=6) (v:=?_) A7 kR kR kR A8 (Or.inl ⟨rF,?_⟩) A9 ?_
    rotate_left 1
    ·(intro wS hSw;(try dsimp only at hSw);go_simp;try(with_reducible rfl))
    try simp only[Act.put,List.setIfInBounds_toArray,List.set_cons_zero,List.set_cons_succ]
    refine wpAnyH_take (i:=7) (v:=?_) A7 kR kR kR A8 (Or.inl ⟨rF,?_⟩) A9 ?_
    rotate_left 1
    ·(intro wS hSw;(try dsimp only at hSw);go_simp;try(with_reducible rfl))
    try simp only[Act.put,List.setIfInBounds_toArray,List.set_cons_zero,List.set_cons_succ]
    clear hJ;refine AR 1 fun K hK=>?_;go_simp;(go_at_call 58;(rw[HV.out]);(with_reducible refine KN'.out.mono ?_);rintro e9 w5 ⟨rfl,hb5,ho5,hm5,hl5,hd5⟩;have HB5:=A6 hb5;have HO5:=A6 ho5;have HM5:=A6 hm5;have d0:=hm5.c0;clear hb5 ho5 hm5 hl5 hd5);try(go_wp2_with fail)
    refine AX hK fun hJ=>?_;clear hK K;clear hJ;refine AR 8 fun K hK=>?_;go_simp;(go_at_call 19;(with_reducible refine(KP.out _).mono ?_);rintro e9 w6 ⟨rfl,rfl⟩);try(go_wp2_with fail)
    refine AX hK fun hJ=>?_;clear hK K;refine wpAnyH_take (i:=9) (v:=?_) A7 kR kR kR A8 (Or.inl ⟨rF,?_⟩) A9 ?_
    rotate_left 1
    ·(intro wS hSw;(try dsimp only at hSw);go_simp;try(with_reducible rfl))
    try simp only[Act.put,List.setIfInBounds_toArray,List.set_cons_zero,List.set_cons_succ]
    refine wpAnyH_done kR ?_ _;clear ht c0 c1 v0;have hm5:=HM5.out;have g0:=hm5.c0;have g1:=hm5.c1;have HGG:=A6 (HG2.out _ (HG.out _ HB5.out HO5.out HM5.out));clear hm5;go_upto_region 3 with fail;refine rG (fun v=>v.cell? ⟨RB,0,none⟩=some (.string s)/\v.cell? ⟨RB,1,none⟩=some (.int .i64 (P:Int))) fun hJ=>?_;refine wpAnyH_take (i:=0) (v:=?_) A7 kR kR kR A8 (Or.inl ⟨rF,?_⟩) A9 ?_
    rotate_left 1
    ·(intro wS hSw;(try dsimp only at hSw);go_simp;try(with_reducible rfl))
    try simp only[Act.put,List.setIfInBounds_toArray,List.set_cons_zero,List.set_cons_succ]
    refine wpAnyH_take (i:=1) (v:=?_) A7 kR kR kR A8 (Or.inl ⟨rF,?_⟩) A9 ?_
    rotate_left 1
    ·(intro wS hSw;(try dsimp only at hSw);go_simp;try(with_reducible rfl))
    try simp only[Act.put,List.setIfInBounds_toArray,List.set_cons_zero,List.set_cons_succ]
    refine wpAnyH_take (i:=2) (v:=?_) A7 kR kR kR A8 (Or.inl ⟨rF,?_⟩) A9 ?_
    rotate_left 1
    ·(intro wS hSw;(try dsimp only at hSw);go_simp;try(with_reducible rfl))
    try simp only[Act.put,List.setIfInBounds_toArray,List.set_cons_zero,List.set_cons_succ]
    refine wpAnyH_take (i:=3) (v:=?_) A7 kR kR kR A8 (Or.inl ⟨rF,?_⟩) A9 ?_
    rotate_left 1
    ·(intro wS hSw;(try dsimp only at hSw);go_simp;try(with_reducible rfl))
    try simp only[Act.put,List.setIfInBounds_toArray,List.set_cons_zero,List.set_cons_succ]
    refine wpAnyH_take (i:=4) (v:=?_) A7 kR kR kR A8 (Or.inl ⟨rF,?_⟩) A9 ?_
    rotate_left 1
    ·(intro wS hSw;(try dsimp only at hSw);go_simp;try(with_reducible rfl))
    try simp only[Act.put,List.setIfInBounds_toArray,List.set_cons_zero,List.set_cons_succ]
    refine wpAnyH_take (i:=5) (v:=?_) A7 kR kR kR A8 (Or.inl ⟨rF,?_⟩) A9 ?_
    rotate_left 1
    ·(intro wS hSw;(try dsimp only at hSw);go_simp;try(with_reducible rfl))
    try simp only[Act.put,List.setIfInBounds_toArray,List.set_cons_zero,List.set_cons_succ]
    refine wpAnyH_take (i:=6) (v:=?_) A7 kR kR kR A8 (Or.inl ⟨rF,?_⟩) A9 ?_
    rotate_left 1
    ·(intro wS hSw;(try dsimp only at hSw);go_simp;try(with_reducible rfl))
    try simp only[Act.put,List.setIfInBounds_toArray,List.set_cons_zero,List.set_cons_succ]
    refine wpAnyH_take (i:=7) (v:=?_) A7 kR kR kR A8 (Or.inl ⟨rF,?_⟩) A9 ?_
    rotate_left 1
    ·(intro wS hSw;(try dsimp only at hSw);go_simp;try(with_reducible rfl))
    try simp only[Act.put,List.setIfInBounds_toArray,List.set_cons_zero,List.set_cons_succ]
    refine wpAnyH_take (i:=8) (v:=?_) A7 kR kR kR A8 (Or.inl ⟨rF,?_⟩) A9 ?_
    rotate_left 1
    ·(intro wS hSw;(try dsimp only at hSw);go_simp;try(with_reducible rfl))
    try simp only[Act.put,List.setIfInBounds_toArray,List.set_cons_zero,List.set_cons_succ]
    refine wpAnyH_take (i:=9) (v:=?_) A7 kR kR kR A8 (Or.inl ⟨rF,?_⟩) A9 ?_
    rotate_left 1
    ·(intro wS hSw;(try dsimp only at hSw);go_simp;try(with_reducible rfl))
    try simp only[Act.put,List.setIfInBounds_toArray,List.set_cons_zero,List.set_cons_succ]
    refine wpAnyH_done kR ?_ _;go_wp2;first|go_end0|refine bodyPost_ret (results_none rfl _ _ _) rfl ?_|(simp only[Exit.inBlock,Exit.then];refine bodyPost_ret (results_none rfl _ _ _) rfl ?_)
    exact HGG.out
  .rw[if_pos q]at hR;have q1:((n:Int)==(C:Int))=false:=sO;have q2:((n:Int) != (C:Int))=true:=sO;have HG2:Hid (∀w',BN E RB s P w w'->AV E RB s w (fun(_:Unit)=>Value.tuple #[]) R (AY 241 A) w'):=fun w' a=>by rw[<-hR];exact a.bad _ 241 A (Below.refl _ _) (AZ.refl _ _)
   unfold AY at HG2;clear hq hR h1 h2 h3 hC hP htb hts KN q;go_enter func27,ntmps27;go_upto_region 1 with fail;refine rG (fun v=>v.cell? ⟨RB,0,none⟩=some (.string s)) fun hJ=>?_;refine wpAnyH_take (i:=0) (v:=?_) A7 kR kR kR A8 (Or.inl ⟨rF,?_⟩) A9 ?_
   rotate_left 1
   ·(intro wS hSw;(try dsimp only at hSw);go_simp;try(with_reducible rfl))
   try simp only[Act.put,List.setIfInBounds_toArray,List.set_cons_zero,List.set_cons_succ]
   refine wpAnyH_take (i:=2) (v:=?_) A7 kR kR kR A8 (Or.inl ⟨rF,?_⟩) A9 ?_
   rotate_left 1
   ·(intro wS hSw;(try dsimp only at hSw);go_simp;try(with_reducible rfl))
   try simp only[Act.put,List.setIfInBounds_toArray,List.set_cons_zero,List.set_cons_succ]
   refine wpAnyH_take (i:=3) (v:=?_) A7 kR kR kR A8 (Or.inl ⟨rF,?_⟩) A9 ?_
   rotate_left 1
   ·(intro wS hSw;(try dsimp only at hSw);go_simp;try(with_reducible rfl))
   try simp only[Act.put,List.setIfInBounds_toArray,List.set_cons_zero,List.set_cons_succ]
   refine wpAnyH_take (i:=4) (v:=?_) A7 kR kR kR A8 (Or.inl ⟨rF,?_⟩) A9 ?_
   rotate_left 1
   ·(intro wS hSw;(try dsimp only at hSw);go_simp;try(with_reducible rfl))
   try simp only[Act.put,List.setIfInBounds_toArray,List.set_cons_zero,List.set_cons_succ]
   refine wpAnyH_take (i:=5) (v:=?_) A7 kR kR kR A8 (Or.inl ⟨rF,?_⟩) A9 ?_
   rotate_left 1
   ·(intro wS hSw;(try dsimp only at hSw);go_simp;try(with_reducible rfl))
   try simp only[Act.put,List.setIfInBounds_toArray,List.set_cons_zero,List.set_cons_succ]
   refine wpAnyH_take (i:=6) (v:=?_) A7 kR kR kR A8 (Or.inl ⟨rF,?_⟩) A9 ?_
   rotate_left 1
   ·(intro wS hSw;(try dsimp only at hSw);go_simp;try(with_reducible rfl))
   try simp only[Act.put,List.setIfInBounds_toArray,List.set_cons_zero,List.set_cons_succ]
   refine wpAnyH_take (i:=7) (v:=?_) A7 kR kR kR A8 (Or.inl ⟨rF,?_⟩) A9 ?_
   rotate_left 1
   ·(intro wS hSw;(try dsimp only at hSw);go_simp;try(with_reducible rfl))
   try simp only[Act.put,List.setIfInBounds_toArray,List.set_cons_zero,List.set_cons_succ]
   clear hJ;refine AR 1 fun K hK=>?_;go_simp;(go_at_call 58;(rw[HV.out]);(with_reducible refine KN'.out.mono ?_);rintro e9 w5 ⟨rfl,hb5,ho5,hm5,hl5,hd5⟩;have HB5:=A6 hb5;have HO5:=A6 ho5;have HM5:=A6 hm5;have d0:=hm5.c0;clear hb5 ho5 hm5 hl5 hd5);try(go_wp2_with fail)
   refine AX hK fun hJ=>?_;clear hK K;clear hJ;refine AR 8 fun K hK=>?_;go_simp;(go_at_call 19;(with_reducible refine(KP.out _).mono ?_);rintro e9 w6 ⟨rfl,rfl⟩);try(go_wp2_with fail)
   refine AX hK fun hJ=>?_;clear hK K;refine wpAnyH_take (i:=9) (v:=?_) A7 kR kR kR A8 (Or.inl ⟨rF,?_⟩) A9 ?_
   rotate_left 1
   ·(intro wS hSw;(try dsimp only at hSw);go_simp;try(with_reducible rfl))
   try simp only[Act.put,List.setIfInBounds_toArray,List.set_cons_zero,List.set_cons_succ]
   refine wpAnyH_done kR ?_ _;have HGG:=A6 (HG2.out _ (HG.out _ HB5.out HO5.out HM5.out));go_wp2;exact⟨rfl,HGG.out⟩
def Gv(i:AB)(j:Nat):Value:=if j=0 then .int .i64 i.op else if j=1 then .int .i64 i.d else if j=2 then .int .i64 i.a else if j=3 then .int .i64 i.b else if j=4 then .int .i64 i.c else if j=5 then .int .i64 i.n else .int .u32 i.bits
theorem NF(i:AB){o:Nat}(h1:1<=o)(h2:o<=5)(v:Int)(j:Nat)(hj:j<7):(if j=o then Value.int .i64 v else Gv i j)=Gv (FU i o v) j:=by
 rcases(show o=1\/o=2\/o=3\/o=4\/o=5 by omega)with rfl|rfl|rfl|rfl|rfl<;>rcases(show j=0\/j=1\/j=2\/j=3\/j=4\/j=5\/j=6 by omega)with rfl|rfl|rfl|rfl|rfl|rfl|rfl<;>rfl
theorem LO(i:AB)(v:Int)(j:Nat)(hj:j<7):(if j=6 then Value.int .u32 v else Gv i j)=Gv {i with bits:=v} j:=by
 rcases(show j=0\/j=1\/j=2\/j=3\/j=4\/j=5\/j=6 by omega)with rfl|rfl|rfl|rfl|rfl|rfl|rfl<;>rfl
theorem Kk{w:World}{X:Nat}{i:AB}(h:w.rowIs X 70 7 (Gv i)):Aj w X 0 (BR i):=fun j hj=>by
 have hj':j<7:=hj;have h9:=h.cell hj';rw[Nat.zero_add,h9];rcases(show j=0\/j=1\/j=2\/j=3\/j=4\/j=5\/j=6 by omega)with rfl|rfl|rfl|rfl|rfl|rfl|rfl<;>rfl
theorem OW{w:World}{X:Nat}{i:AB}(h:w.rowIs X 70 7 (Gv i)){o:Nat}(h1:1<=o)(h2:o<=5):∃v,w.cell? ⟨X,o,none⟩=some (.int .i64 v):=by
 have h9:=h.cell (i:=o) oM;rcases(show o=1\/o=2\/o=3\/o=4\/o=5 by omega)with rfl|rfl|rfl|rfl|rfl<;>exact⟨_,h9⟩
theorem Pd{os:List Nat}{k:Nat}(h:k<os.length)(i:AB):OB (os.drop k) i=Ac BJ fun n=>OB (os.drop (k+1)) (FU i os[k] (n:Int)):=by
 rw[List.drop_eq_getElem_cons h];rfl
theorem NC{op:Nat}(h1:1<=op)(h2:op<=37):∀o∈Cz (CS op),1<=o/\o<=5:=fun o ho=>by
 rw[Jb (i:=CS op) op rfl]at ho;exact Rp
theorem Me(E RB:Nat)(s:ByteArray)(A:Nat)(w:World)(h:Bq E RB s A w)(hA:A<=s.size)(hs:s.size<=140737488355328)(hE:E<=w.heap.size):
 Calls prog 57 #[.pointer (some ⟨RB,0,none⟩)] w (AV E RB s w Bo (DY ((Aa s).drop A) A)):=by
 obtain⟨W0,hW0⟩:∃W,w.alloc (.cells #[.int .i64 0,.int .i64 0,.int .i64 0,.int .i64 0,.int .i64 0,.int .i64 0,.int .u32 0] 70)=W:=⟨_,rfl⟩
 have hb0:Below w.heap.size w W0:=by rw[<-hW0];exact A5 _ _
 have h0:=h.below hb0;have hE0:E<=W0.heap.size:=gH hE hb0.size;obtain⟨X,hX⟩:=gA (w.heap.size)
 have hXR:X≠RB:=by have:=h.b.lt;omega
 have hr0:W0.rowIs X 70 7 (Gv (CS 0)):=by
  rw[<-hW0,<-hX];exact World.rowIs_alloc w #[.int .i64 0,.int .i64 0,.int .i64 0,.int .i64 0,.int .i64 0,.int .i64 0,.int .u32 0] 70 _ (fun i hi=>by
   rcases(show i=0\/i=1\/i=2\/i=3\/i=4\/i=5\/i=6 by have:i<7:=hi;omega)with rfl|rfl|rfl|rfl|rfl|rfl|rfl<;>rfl)
 have KS:Calls prog 85 #[.pointer (some ⟨RB,0,none⟩),.int .i64 1,.int .i64 37] W0 (AV E RB s W0 (fun(b:Nat)=>.int .i64 (b:Int)) (Bl 1 37 ((Aa s).drop A) A)):=DM E RB s A 1 37 W0 h0 hA hs hE0;obtain⟨R,hR⟩:=gA (DY ((Aa s).drop A) A)
 rw[hR];rw[O2]at hR;have HRS:=A6 ((BN.start h).below hE hb0);cases hq:Bl 1 37 ((Aa s).drop A) A with
 |error er=>
  obtain⟨er,at_⟩:=er;have HP:R=.error (er,at_):=by rw[<-hR];exact Ah hq
  rw[hq]at KS;have KS':=A6 KS;have HG:Hid (∀w',Below E W0 w'->AZ RB W0 w'->AV E RB s w Bo R (AY er at_) w'):=fun w' a b=>by rw[HP];exact HRS.bad Bo er at_ a b
  unfold AV AY at KS';unfold AY at HG;simp only at KS';clear h h0 hb0 hr0 KS hq HP hR hX hXR hE0;go_enter func57,ntmps57;exact Qz
 |ok r=>
  obtain⟨k,l',A1⟩:=r;have hk:=Fx hq;rw[Ap hq]at hR;rw[hq]at KS;have KS':=A6 KS;unfold AV at KS';simp only at KS';have HR0:=A6 hr0;have HRB:=A6 h.b.lt;have HX:Hid (w.heap.size<=X):=Nat.le_of_eq hX;have HRR:=A6 hR;clear h h0 hb0 hr0 KS hE0 hR hq;go_enter func57,ntmps57;go_upto_region 1 with fail;try rw[hW0]
  try rw[hX]
  clear hW0 hX;go_upto_region 2 with(go_at_call 85;(with_reducible refine KS'.out.mono ?_);rintro e9 w4 ⟨rfl,hb4,ho4,hm4,hl4,hd4⟩;have HB4:=A6 hb4;have HO4:=A6 ho4;have HM4:=A6 hm4;have HD4:=A6 hd4;have HL4:=A6 hl4;clear hb4 ho4 hm4 hl4 hd4)
  obtain⟨Y,hY⟩:=gA (w4.heap.size)
  obtain⟨V,hV⟩:=gA (w4.alloc (.cells #[.int .i64 (k:Int),.int .i64 0,.int .i64 0,.int .i64 0,.int .i64 0,.int .i64 0,.int .u32 0] 70))
  have hbV:Below w4.heap.size w4 V:=by rw[<-hV];exact A5 _ _
  have r4:=AC HO4.out HR0.out hXR;have rx:=r4.of_block (hbV.block _ r4.lt);have ry:V.rowIs Y 70 7 (Gv (CS k)):=by
   rw[<-hV,<-hY];exact World.rowIs_alloc w4 #[.int .i64 (k:Int),.int .i64 0,.int .i64 0,.int .i64 0,.int .i64 0,.int .i64 0,.int .u32 0] 70 _ (fun i hi=>by
   rcases(show i=0\/i=1\/i=2\/i=3\/i=4\/i=5\/i=6 by have:i<7:=hi;omega)with rfl|rfl|rfl|rfl|rfl|rfl|rfl<;>rfl)
  have hXY:X≠Y:=by have:=r4.lt;omega
  have hYR:Y≠RB:=by have:=HM4.b.lt;omega
  have hwY:w.heap.size<=Y:=by have:=r4.lt;have:=HX.out;omega
  have D1:BN E RB s A1 w V:=((HRS.next HB4.out HO4.out HM4.out).below hE hbV)
  have KF:=Fm Y (CS k) (by show(1:Int)<=(k:Int);omega) (by show(k:Int)<=37;omega) V (Kk ry);have hR:=HRR.out;rw[HD4.out]at hR;have HFI:=A6 (NC hk.1 hk.2);obtain⟨F,hF⟩:=gA (Cz (CS k))
  rw[hF]at KF hR HFI;obtain⟨N,hN⟩:=gA (F.length)
  rw[hN]at KF;have hN5:N<=5:=by rw[<-hN,<-hF];exact Gu _
  have HN:=A6 hN;have HRR2:=A6 hR;have KF':=A6 KF;have HD1:=A6 D1;have HRX:=A6 rx;have HRY:=A6 ry;have HYL:Hid (Y<V.heap.size):=ry.lt;try rw[hV]
  try rw[hY]
  clear hV hY hbV HRR KS' HB4 HO4 HM4 HD4 HR0 HRS D1 rx ry r4 KF hR hF hN;go_upto_block 0 with(go_at_call 81;(with_reducible refine KF'.out.mono ?_);rintro e9 w5 ⟨q5,d5,rfl,ho5,hb5⟩;have HB5:=A6 hb5;have HF5:=A6 ho5;clear hb5 ho5)
  have HPC:Hid (∀ (u:World),(∀b,V.heap.size<=b->b<w5.heap.size->u.heap[b]? =w5.heap[b]?)->∀j (hj:j<F.length),∃gb,q5=some ⟨gb,0,none⟩/\u.cell? ⟨gb,j,none⟩=some (.pointer (some ⟨Y,F[j],none⟩))):=fun u hu j hj=>by
   have hF5:=HF5.out;rcases hF5.2 with⟨e1,e2⟩|⟨gb,cap,cur,e1,-,-⟩
   .exact absurd e2 Pn
   .simp only[Value.slice.injEq]at e1;have hq:q5=some ⟨gb,0,none⟩:=e1.1;have hob:(Value.slice q5 N d5).ownBlock=some gb:=by rw[hq];rfl
    have hlt:=hF5.lt gb hob;have hc:=hF5.cells hob j (.pointer (some ⟨Y,F[j],none⟩)) (by simp[CY,hj]);have hadd:(⟨gb,0,none⟩:Addr).add j=⟨gb,j,none⟩:=by unfold Addr.add;split<;>simp_all
    rw[hadd]at hc;exact⟨gb,hq,(gC (hu gb hlt.1 hlt.2) (a:=⟨gb,j,none⟩)).trans hc⟩
  have HSt:Hid (BN E RB s A1 w w5/\w5.rowIs X 70 7 (Gv (CS 0))/\w5.rowIs Y 70 7 (Gv (CS k))):=⟨HD1.below hE HB5.out,HRX.of_block (HB5.block _ HRX.lt),HRY.of_block (HB5.block _ HRY.lt)⟩
  have HRV:Hid (RB<V.heap.size/\V.heap.size<=w5.heap.size):=⟨HD1.2.2.b.lt,HB5.size⟩
  clear HB5 HF5 HD1 HRX HRY KF';go_wp2_with fail
  go_loopw [11] (fun iv wx=>∃ (j A':Nat) (i:AB),j<=N/\iv=.int .i64 (j:Int)/\Hid ((i.op=(k:Int)/\i.bits=0)/\BN E RB s A' w wx/\A'<=s.size/\wx.rowIs X 70 7 (Gv (CS 0))/\wx.rowIs Y 70 7 (Gv i)/\(∀b,V.heap.size<=b->b<w5.heap.size->wx.heap[b]? =w5.heap[b]?)/\w5.heap.size<=wx.heap.size/\R=Ac (OB (F.drop j) i) (fun i=>Ac (EZ k) fun z=>Ay {i with bits:=z}) ((Aa s).drop A') A')) (fun iv _=>N-(intOf iv).toNat)
  case atStart=>exact⟨0,A1,CS k,gI _,rfl,⟨rfl,rfl⟩,HSt.1,HL4.out,HSt.2.1,HSt.2.2,fun _ _ _=>rfl,gF _,HRR2.symm⟩
  case round=>
   clear HSt HRR2;obtain⟨j,A',i,hj,rfl,HJ⟩:=hrel;obtain⟨jop,j1,j2,j3,j4,j5,j5b,j6⟩:=HJ.out;by_cases hlt:j<N
   .have hjl:j<F.length:=by have:=HN.out;omega
    have e1:(j:Int)<(N:Int):=oM;have i1:(0:Int)<=(j:Int):=oM;obtain⟨gb,rfl,hgc⟩:=HPC.out wr j5 j hjl;obtain⟨ho1,ho2⟩:=HFI.out F[j] (gD hjl);rw[Pd hjl,B3]at j6;obtain⟨o,hoe⟩:=gA (F[j])
    rw[hoe]at hgc ho1 ho2 j6;have KN:=Co E RB s A' wr j1.2.2 j2 hs (gH hE j1.2.1.1);cases hq3:BJ ((Aa s).drop A') A' with
    |error er=>
     obtain⟨er,at_⟩:=er;rw[Ah hq3]at j6;rw[hq3]at KN;have KN':=A6 KN;unfold AV AY at KN';simp only at KN';have HG:Hid (∀w',Below E wr w'->AZ RB wr w'->AV E RB s w Bo R (AY er at_) w'):=fun w' a b=>by rw[j6];exact j1.bad Bo er at_ a b
     unfold AY at HG;clear j1 j2 j3 j4 j5 j5b j6 jop hq3 KN HJ hlt hoe HPC HFI;exact QC
    |ok r=>
     obtain⟨n,l3,A3⟩:=r;rw[Ap hq3]at j6;rw[hq3]at KN;have KN':=A6 KN;unfold AV at KN';simp only at KN';have HG:Hid (∀w',Below E wr w'->AZ RB wr w'->Bq E RB s A3 w'->BN E RB s A3 w w'/\w'.rowIs X 70 7 (Gv (CS 0))/\w'.rowIs Y 70 7 (Gv i)/\(∀b,V.heap.size<=b->b<w5.heap.size->w'.heap[b]? =w5.heap[b]?)/\w5.heap.size<=w'.heap.size):=fun w' a b c=>⟨j1.next a b c,AC b j3 hXR,AC b j4 hYR,fun x h1 h2=>(b.2 x oM (by have:=HRV.out;omega)).trans (j5 x h1 h2),gH j5b b.1⟩
     have H6:=A6 j6;have HOP:=A6 jop;have wi:IntKind.i64.wrap ((j:Int)+1)=((j+1:Nat):Int):=by rw[IntKind.wrap_i64];omega
     clear j1 j2 j3 j4 j5 j5b j6 jop hq3 KN HJ hoe HPC HFI;go_wp2_with(go_at_call 87;(with_reducible refine KN'.out.mono ?_);rintro e9 w7 ⟨rfl,hb7,ho7,hm7,hl7,hd7⟩;obtain⟨D7,x7,z7,u7,s7⟩:=HG.out _ hb7 ho7 hm7;have HL7:=A6 hl7;have HD7:=A6 hd7;obtain⟨vo,y7⟩:=OW z7 ho1 ho2;have f7:=z7.frozen o;have HD:=A6 (D7.set hE HRB.out hwY o (.int .i64 (n:Int)));have HX7:Hid ((w7.setCell ⟨Y,o,none⟩ (.int .i64 (n:Int))).rowIs X 70 7 (Gv (CS 0))):=x7.of_block (gE hXY);have HZ7:Hid ((w7.setCell ⟨Y,o,none⟩ (.int .i64 (n:Int))).rowIs Y 70 7 (Gv (FU i o (n:Int)))):=(z7.set o (.int .i64 (n:Int))).congr (NF i ho1 ho2 (n:Int));have HU7:Hid ((∀b,V.heap.size<=b->b<w5.heap.size->(w7.setCell ⟨Y,o,none⟩ (.int .i64 (n:Int))).heap[b]? =w5.heap[b]?)/\w5.heap.size<=(w7.setCell ⟨Y,o,none⟩ (.int .i64 (n:Int))).heap.size):=⟨fun b h1 h2=>(gE (by show b≠Y;have:=HYL.out;omega)).trans (u7 b h1 h2),by simpa using s7⟩;clear hb7 ho7 hm7 hl7 hd7 D7 x7 z7 u7 s7);go_roundw
     case rel=>exact⟨j+1,A3,FU i o (n:Int),oM,gN,⟨(Ol i o _).trans HOP.1,(Lj i o _).trans HOP.2⟩,HD.out,HL7.out,HX7.out,HZ7.out,HU7.1,HU7.2,by rw[<-HD7.out];exact H6.out⟩
     case measure=>simp[intOf];omega
   .have e1:¬ (j:Int)<(N:Int):=oM;have hjN:F.drop j=[]:=List.drop_eq_nil_of_le Pn;rw[hjN,OB,Bw]at j6;obtain⟨iop,d,a,b,c,n,z⟩:=i;obtain⟨jop,jz⟩:=jop;simp only at jop jz;subst jop;have HZ0:=A6 jz;clear jz;have y0:wr.cell? ⟨Y,0,none⟩=some (.int .i64 (k:Int)):=j4.cell (i:=0) dE;have y1:wr.cell? ⟨Y,1,none⟩=some (.int .i64 d):=j4.cell (i:=1) dE;have y2:wr.cell? ⟨Y,2,none⟩=some (.int .i64 a):=j4.cell (i:=2) dE;have y3:wr.cell? ⟨Y,3,none⟩=some (.int .i64 b):=j4.cell (i:=3) dE;have y4:wr.cell? ⟨Y,4,none⟩=some (.int .i64 c):=j4.cell (i:=4) dE;have y5:wr.cell? ⟨Y,5,none⟩=some (.int .i64 n):=j4.cell (i:=5) dE;have y6:wr.cell? ⟨Y,6,none⟩=some (.int .u32 z):=j4.cell (i:=6) dE;clear hjN HJ HPC HFI hlt j5 j5b;by_cases q:k=1
    .have q2:((k:Int)==1)=true:=by rw[q];rfl
     have hpb:EZ k=Ac (Cc 4) fun n=>Ay (n:Int):=by unfold EZ;rw[if_pos q]
     rw[hpb,B3]at j6;have KN:=ET E RB s A' wr j1.2.2 j2 hs (gH hE j1.2.1.1);clear q hpb;cases hq3:Cc 4 ((Aa s).drop A') A' with
     |error er=>
      obtain⟨er,at_⟩:=er;rw[Ah hq3]at j6;rw[hq3]at KN;have KN':=A6 KN;unfold AV AY at KN';simp only at KN';have HG:Hid (∀w',Below E wr w'->AZ RB wr w'->AV E RB s w Bo R (AY er at_) w'):=fun w' a b=>by rw[j6];exact j1.bad Bo er at_ a b
      unfold AY at HG;clear j1 j2 j3 j4 j6 hq3 KN;exact Rz
     |ok r=>
      obtain⟨m,l3,A3⟩:=r;rw[Ap hq3,Bw]at j6;rw[hq3]at KN;have KN':=A6 KN;unfold AV at KN';simp only at KN';have HRR:Hid (R=.ok (⟨(k:Int),d,a,b,c,n,(m:Int)⟩,l3,A3)):=j6;have HG:Hid (∀w',Below E wr w'->AZ RB wr w'->Bq E RB s A3 w'->BN E RB s A3 w w'/\w'.rowIs X 70 7 (Gv (CS 0))/\w'.rowIs Y 70 7 (Gv ⟨(k:Int),d,a,b,c,n,z⟩)):=fun w' a b c=>⟨j1.next a b c,AC b j3 hXR,AC b j4 hYR⟩
      clear j1 j2 j3 j4 j6 hq3 KN y1 y2 y3 y4 y5 y6;go_upto_region 9 with(go_at_call 88;(with_reducible refine KN'.out.mono ?_);rintro e9 w7 ⟨rfl,hb7,ho7,hm7,hl7,hd7⟩;obtain⟨D7,x7,z7⟩:=HG.out _ hb7 ho7 hm7;have HL7:=A6 hl7;have HD7:=A6 hd7;have y7:w7.cell? ⟨Y,6,none⟩=some (.int .u32 z):=z7.cell (i:=6) dE;have f7':=z7.frozen 6;clear hb7 ho7 hm7 hl7 hd7)
      obtain⟨V3,hV3⟩:=gA (w7.setCell ⟨Y,6,none⟩ (.int .u32 (m:Int)))
      have xr:=x7.of_block (w':=V3) Ot;have zr:V3.rowIs Y 70 7 (Gv ⟨(k:Int),d,a,b,c,n,(m:Int)⟩):=by
       rw[<-hV3];exact(z7.set 6 (.int .u32 (m:Int))).congr (LO _ _)
      have D8:BN E RB s A3 w V3:=by rw[<-hV3];exact D7.set hE HRB.out hwY 6 _
      have b0:V3.cell? ⟨Y,0,none⟩=some (.int .i64 (k:Int)):=zr.cell (i:=0) dE;have b1:V3.cell? ⟨Y,1,none⟩=some (.int .i64 d):=zr.cell (i:=1) dE;have b2:V3.cell? ⟨Y,2,none⟩=some (.int .i64 a):=zr.cell (i:=2) dE;have b3:V3.cell? ⟨Y,3,none⟩=some (.int .i64 b):=zr.cell (i:=3) dE;have b4:V3.cell? ⟨Y,4,none⟩=some (.int .i64 c):=zr.cell (i:=4) dE;have b5:V3.cell? ⟨Y,5,none⟩=some (.int .i64 n):=zr.cell (i:=5) dE;have b6:V3.cell? ⟨Y,6,none⟩=some (.int .u32 (m:Int)):=zr.cell (i:=6) dE;have x0:V3.cell? ⟨X,0,none⟩=some (.int .i64 0):=xr.cell (i:=0) dE;have f0:=xr.frozen 0;have x1:V3.cell? ⟨X,1,none⟩=some (.int .i64 0):=xr.cell (i:=1) dE;have f1:=xr.frozen 1;have x2:V3.cell? ⟨X,2,none⟩=some (.int .i64 0):=xr.cell (i:=2) dE;have f2:=xr.frozen 2;have x3:V3.cell? ⟨X,3,none⟩=some (.int .i64 0):=xr.cell (i:=3) dE;have f3:=xr.frozen 3;have x4:V3.cell? ⟨X,4,none⟩=some (.int .i64 0):=xr.cell (i:=4) dE;have f4:=xr.frozen 4;have x5:V3.cell? ⟨X,5,none⟩=some (.int .i64 0):=xr.cell (i:=5) dE;have f5:=xr.frozen 5;have x6:V3.cell? ⟨X,6,none⟩=some (.int .u32 0):=xr.cell (i:=6) dE;have f6:=xr.frozen 6;have HD:=A6 (((((((D8.set hE HRB.out HX.out 0 (.int .i64 (k:Int))).set hE HRB.out HX.out 1 (.int .i64 d)).set hE HRB.out HX.out 2 (.int .i64 a)).set hE HRB.out HX.out 3 (.int .i64 b)).set hE HRB.out HX.out 4 (.int .i64 c)).set hE HRB.out HX.out 5 (.int .i64 n)).set hE HRB.out HX.out 6 (.int .u32 (m:Int)));try rw[hV3]
      clear hV3 D7 D8 x7 z7 xr zr y7 f7' KN' HG;go_wp2;refine bodyPost_ret (by simp[results,results57,go_sem, *];try rfl) rfl ?_;rw[HRR.out];exact HD.fin HL7.out HD7.out
    .have q2:((k:Int)==1)=false:=sO;have hpb:EZ k=Ay 0:=by unfold EZ;rw[if_neg q]
     rw[hpb,Bw]at j6;have hz0:z=0:=HZ0.out;subst hz0;have HRR:Hid (R=.ok (⟨(k:Int),d,a,b,c,n,0⟩,(Aa s).drop A',A')):=j6;have xr:=j3;have D8:=j1;have HL7:=A6 j2;have x0:wr.cell? ⟨X,0,none⟩=some (.int .i64 0):=xr.cell (i:=0) dE;have f0:=xr.frozen 0;have x1:wr.cell? ⟨X,1,none⟩=some (.int .i64 0):=xr.cell (i:=1) dE;have f1:=xr.frozen 1;have x2:wr.cell? ⟨X,2,none⟩=some (.int .i64 0):=xr.cell (i:=2) dE;have f2:=xr.frozen 2;have x3:wr.cell? ⟨X,3,none⟩=some (.int .i64 0):=xr.cell (i:=3) dE;have f3:=xr.frozen 3;have x4:wr.cell? ⟨X,4,none⟩=some (.int .i64 0):=xr.cell (i:=4) dE;have f4:=xr.frozen 4;have x5:wr.cell? ⟨X,5,none⟩=some (.int .i64 0):=xr.cell (i:=5) dE;have f5:=xr.frozen 5;have x6:wr.cell? ⟨X,6,none⟩=some (.int .u32 0):=xr.cell (i:=6) dE;have f6:=xr.frozen 6;have HD:=A6 (((((((D8.set hE HRB.out HX.out 0 (.int .i64 (k:Int))).set hE HRB.out HX.out 1 (.int .i64 d)).set hE HRB.out HX.out 2 (.int .i64 a)).set hE HRB.out HX.out 3 (.int .i64 b)).set hE HRB.out HX.out 4 (.int .i64 c)).set hE HRB.out HX.out 5 (.int .i64 n)).set hE HRB.out HX.out 6 (.int .u32 0));clear D8 xr j1 j2 j3 j4 j6 hpb q;go_wp2;refine bodyPost_ret (by simp[results,results57,go_sem, *];try rfl) rfl ?_;rw[HRR.out];exact HD.fin HL7.out rfl
def N9(a b c d e:Value)(j:Nat):Value:=if j=0 then a else if j=1 then b else if j=2 then c else if j=3 then d else e
theorem Nb(E RB:Nat)(s:ByteArray)(A:Nat)(w:World)(h:Bq E RB s A w)(hA:A<=s.size)(hs:s.size<=140737488355328)(hE:E<=w.heap.size):
 Calls prog 55 #[.pointer (some ⟨RB,0,none⟩)] w (AV E RB s w FN (Jp ((Aa s).drop A) A)):=by
 obtain⟨W0,hW0⟩:∃W,w.alloc (.cells #[.int .i64 0,.int .i64 0,.bool false,.int .u32 0,.int .i64 0] 66)=W:=⟨_,rfl⟩
 have hb0:Below w.heap.size w W0:=by rw[<-hW0];exact A5 _ _
 have h0:=h.below hb0;have hE0:E<=W0.heap.size:=gH hE hb0.size;obtain⟨X,hX⟩:=gA (w.heap.size)
 have hXR:X≠RB:=by have:=h.b.lt;omega
 have hr0:W0.rowIs X 66 5 (N9 (.int .i64 0) (.int .i64 0) (.bool false) (.int .u32 0) (.int .i64 0)):=by
  rw[<-hW0,<-hX];exact World.rowIs_alloc w #[.int .i64 0,.int .i64 0,.bool false,.int .u32 0,.int .i64 0] 66 _ (fun i hi=>by
   rcases(show i=0\/i=1\/i=2\/i=3\/i=4 by have:i<5:=hi;omega)with rfl|rfl|rfl|rfl|rfl<;>rfl)
 have KS:Calls prog 85 #[.pointer (some ⟨RB,0,none⟩),.int .i64 0,.int .i64 1] W0 (AV E RB s W0 (fun(b:Nat)=>.int .i64 (b:Int)) (Bl 0 1 ((Aa s).drop A) A)):=DM E RB s A 0 1 W0 h0 hA hs hE0;obtain⟨R,hR⟩:=gA (Jp ((Aa s).drop A) A)
 rw[hR];unfold Jp at hR;have HRS:=A6 ((BN.start h).below hE hb0);cases hq:Bl 0 1 ((Aa s).drop A) A with
 |error er=>
  obtain⟨er,at_⟩:=er;have HP:R=.error (er,at_):=by rw[<-hR];exact Ah hq
  rw[hq]at KS;have KS':=A6 KS;have HG:Hid (∀w',Below E W0 w'->AZ RB W0 w'->AV E RB s w FN R (AY er at_) w'):=fun w' a b=>by rw[HP];exact HRS.bad FN er at_ a b
  unfold AV AY at KS';unfold AY at HG;simp only at KS';clear h h0 hb0 hr0 KS hq HP hR hX hXR hE0;go_enter func55,ntmps55;exact Qz
 |ok r=>
  obtain⟨k,l',A1⟩:=r;have hk:=Fx hq;rw[Ap hq]at hR;rw[hq]at KS;have KS':=A6 KS;unfold AV at KS';simp only at KS';obtain⟨kb,hkb⟩:∃b:Bool,(k==1)=b:=⟨_,rfl⟩
  rw[hkb]at hR;have qk:((k:Int)==1)=kb:=by
   rw[<-hkb];rcases(show k=0\/k=1 by omega)with rfl|rfl<;>rfl
  have HR0:=A6 hr0;have HRB:=A6 h.b.lt;have HX:Hid (w.heap.size<=X):=Nat.le_of_eq hX;have HRR:=A6 hR;clear h h0 hb0 hr0 KS hE0 hR hkb hq;go_enter func55,ntmps55;go_upto_region 1 with fail;try rw[hW0]
  try rw[hX]
  clear hW0 hX;go_upto_region 2 with(go_at_call 85;(with_reducible refine KS'.out.mono ?_);rintro e9 w4 ⟨rfl,hb4,ho4,hm4,hl4,hd4⟩;have HB4:=A6 hb4;have HO4:=A6 ho4;have HM4:=A6 hm4;have HD4:=A6 hd4;have HL4:=A6 hl4;clear hb4 ho4 hm4 hl4 hd4)
  obtain⟨Y,hY⟩:=gA (w4.heap.size)
  obtain⟨V,hV⟩:=gA (w4.alloc (.cells #[.int .i64 0,.int .i64 0,.bool kb,.int .u32 0,.int .i64 0] 66))
  have hbV:Below w4.heap.size w4 V:=by rw[<-hV];exact A5 _ _
  have r4:=AC HO4.out HR0.out hXR;have rx:=r4.of_block (hbV.block _ r4.lt);have ry:V.rowIs Y 66 5 (N9 (.int .i64 0) (.int .i64 0) (.bool kb) (.int .u32 0) (.int .i64 0)):=by
   rw[<-hV,<-hY];exact World.rowIs_alloc w4 #[.int .i64 0,.int .i64 0,.bool kb,.int .u32 0,.int .i64 0] 66 _ (fun i hi=>by
   rcases(show i=0\/i=1\/i=2\/i=3\/i=4 by have:i<5:=hi;omega)with rfl|rfl|rfl|rfl|rfl<;>rfl)
  have hXY:X≠Y:=by have:=r4.lt;omega
  have hYR:Y≠RB:=by have:=HM4.b.lt;omega
  have hwY:w.heap.size<=Y:=by have:=r4.lt;have:=HX.out;omega
  have D1:BN E RB s A1 w V:=((HRS.next HB4.out HO4.out HM4.out).below hE hbV)
  have KM:=Gl E RB s A1 V D1.2.2 HL4.out hs (gH hE D1.2.1.1);have hR:=HRR.out;rw[HD4.out]at hR;try rw[hV]
  try rw[hY]
  clear hV hY hbV HRR KS' HB4 HO4 HM4 HD4 HR0 HRS;cases hq2:Hj ((Aa s).drop A1) A1 with
  |error er=>
   obtain⟨er,at_⟩:=er;rw[Ah hq2]at hR;rw[hq2]at KM;have KM':=A6 KM;unfold AV AY at KM';simp only at KM';have HG:Hid (∀w',Below E V w'->AZ RB V w'->AV E RB s w FN R (AY er at_) w'):=fun w' a b=>by rw[<-hR];exact D1.bad FN er at_ a b
   unfold AY at HG;clear D1 KM hq2 hR rx ry r4;go_wp2_with(go_at_call 53;(with_reducible refine KM'.out.mono ?_);rintro e9 w5 ⟨rfl,hb5,ho5⟩;have HR5:=A6 (HG.out _ hb5 ho5);clear hb5 ho5);exact⟨rfl,HR5.out⟩
  |ok r=>
   obtain⟨⟨tk,tp⟩,l2,A2⟩:=r;rw[Ap hq2]at hR;rw[hq2]at KM;have KM':=A6 KM;unfold AV Ci at KM';simp only at KM' hR;have HG:Hid (∀w',Below E V w'->AZ RB V w'->Bq E RB s A2 w'->BN E RB s A2 w w'/\w'.rowIs X 66 5 (N9 (.int .i64 0) (.int .i64 0) (.bool false) (.int .u32 0) (.int .i64 0))/\w'.rowIs Y 66 5 (N9 (.int .i64 0) (.int .i64 0) (.bool kb) (.int .u32 0) (.int .i64 0))):=fun w' a b c=>⟨D1.next a b c,AC b rx hXR,AC b ry hYR⟩
   have HRR:=A6 hR;clear D1 KM hq2 hR rx ry r4;go_upto_region 3 with(go_at_call 53;(with_reducible refine KM'.out.mono ?_);rintro e9 w5 ⟨rfl,hb5,ho5,hm5,hl5,hd5⟩;obtain⟨D5,x5,z5⟩:=HG.out _ hb5 ho5 hm5;have HL5:=A6 hl5;have HD5:=A6 hd5;have y50:w5.cell? ⟨Y,0,none⟩=some (.int .i64 0):=z5.cell (i:=0) dE;have f50:=z5.frozen 0;have y51:w5.cell? ⟨Y,1,none⟩=some (.int .i64 0):=z5.cell (i:=1) dE;have f51:=z5.frozen 1;clear hb5 ho5 hm5 hl5 hd5)
   obtain⟨V2,hV2⟩:=gA ((w5.setCell ⟨Y,0,none⟩ (.int .i64 tk)).setCell ⟨Y,1,none⟩ (.int .i64 tp))
   have x6:=x5.of_block (w':=V2) (by rw[<-hV2];exact(gE hXY).trans (gE hXY));have z6:V2.rowIs Y 66 5 (N9 (.int .i64 tk) (.int .i64 tp) (.bool kb) (.int .u32 0) (.int .i64 0)):=by
    rw[<-hV2];exact((z5.set 0 (.int .i64 tk)).set 1 (.int .i64 tp)).congr fun j hj=>by
     exact QH
   have D6:BN E RB s A2 w V2:=by rw[<-hV2];exact(D5.set hE HRB.out hwY 0 _).set hE HRB.out hwY 1 _
   have a0:V2.cell? ⟨Y,0,none⟩=some (.int .i64 tk):=z6.cell (i:=0) dE;have hR:=HRR.out;rw[HD5.out]at hR;try rw[hV2]
   clear hV2 D5 x5 z5 y50 y51 f50 f51 HRR KM' HG HD5;by_cases q:tk=2
   .have q2:(tk==2)=true:=by simpa using q
    simp only[if_pos q]at hR;clear q;have KN:=Co E RB s A2 V2 D6.2.2 HL5.out hs (gH hE D6.2.1.1);cases hq3:BJ ((Aa s).drop A2) A2 with
    |error er=>
     obtain⟨er,at_⟩:=er;rw[Ah hq3]at hR;rw[hq3]at KN;have KN':=A6 KN;unfold AV AY at KN';simp only at KN';have HG:Hid (∀w',Below E V2 w'->AZ RB V2 w'->AV E RB s w FN R (AY er at_) w'):=fun w' a b=>by rw[<-hR];exact D6.bad FN er at_ a b
     unfold AY at HG;clear D6 KN hq3 hR x6 z6;exact QC
    |ok r=>
     obtain⟨n,l3,A3⟩:=r;rw[Ap hq3]at hR;rw[hq3]at KN;have KN':=A6 KN;unfold AV at KN';simp only at KN';have HG:Hid (∀w',Below E V2 w'->AZ RB V2 w'->Bq E RB s A3 w'->BN E RB s A3 w w'/\w'.rowIs X 66 5 (N9 (.int .i64 0) (.int .i64 0) (.bool false) (.int .u32 0) (.int .i64 0))/\w'.rowIs Y 66 5 (N9 (.int .i64 tk) (.int .i64 tp) (.bool kb) (.int .u32 0) (.int .i64 0))):=fun w' a b c=>⟨D6.next a b c,AC b x6 hXR,AC b z6 hYR⟩
     have HRR:Hid (R=.ok (⟨⟨tk,tp⟩,kb,0,(n:Int)⟩,l3,A3)):=hR.symm;clear D6 KN hq3 hR x6 z6;go_upto_region 6 with(go_at_call 87;(with_reducible refine KN'.out.mono ?_);rintro e9 w7 ⟨rfl,hb7,ho7,hm7,hl7,hd7⟩;obtain⟨D7,x7,z7⟩:=HG.out _ hb7 ho7 hm7;have HL7:=A6 hl7;have HD7:=A6 hd7;have y7:w7.cell? ⟨Y,4,none⟩=some (.int .i64 0):=z7.cell (i:=4) dE;have f7:=z7.frozen 4;clear hb7 ho7 hm7 hl7 hd7)
     obtain⟨V3,hV3⟩:=gA (w7.setCell ⟨Y,4,none⟩ (.int .i64 (n:Int)))
     have x8:=x7.of_block (w':=V3) Ot;have z8:V3.rowIs Y 66 5 (N9 (.int .i64 tk) (.int .i64 tp) (.bool kb) (.int .u32 0) (.int .i64 (n:Int))):=by
      rw[<-hV3];exact(z7.set 4 (.int .i64 (n:Int))).congr fun j hj=>by
       exact QH
     have D8:BN E RB s A3 w V3:=by rw[<-hV3];exact D7.set hE HRB.out hwY 4 _
     have b0:V3.cell? ⟨Y,0,none⟩=some (.int .i64 tk):=z8.cell (i:=0) dE;have b1:V3.cell? ⟨Y,1,none⟩=some (.int .i64 tp):=z8.cell (i:=1) dE;have b2:V3.cell? ⟨Y,2,none⟩=some (.bool kb):=z8.cell (i:=2) dE;have b3:V3.cell? ⟨Y,3,none⟩=some (.int .u32 0):=z8.cell (i:=3) dE;have b4:V3.cell? ⟨Y,4,none⟩=some (.int .i64 (n:Int)):=z8.cell (i:=4) dE;have x0:V3.cell? ⟨X,0,none⟩=some (.int .i64 0):=x8.cell (i:=0) dE;have x1:V3.cell? ⟨X,1,none⟩=some (.int .i64 0):=x8.cell (i:=1) dE;have x2:V3.cell? ⟨X,2,none⟩=some (.bool false):=x8.cell (i:=2) dE;have x3:V3.cell? ⟨X,3,none⟩=some (.int .u32 0):=x8.cell (i:=3) dE;have x4:V3.cell? ⟨X,4,none⟩=some (.int .i64 0):=x8.cell (i:=4) dE;have f0:=x8.frozen 0;have f1:=x8.frozen 1;have f2:=x8.frozen 2;have f3:=x8.frozen 3;have f4:=x8.frozen 4;have HD:=A6 (((((D8.set hE HRB.out HX.out 0 (.int .i64 tk)).set hE HRB.out HX.out 1 (.int .i64 tp)).set hE HRB.out HX.out 2 (.bool kb)).set hE HRB.out HX.out 3 (.int .u32 0)).set hE HRB.out HX.out 4 (.int .i64 (n:Int)));exact Rs
   .have q2:(tk==2)=false:=by simpa using q
    simp only[if_neg q]at hR;have KN:=ET E RB s A2 V2 D6.2.2 HL5.out hs (gH hE D6.2.1.1);cases hq3:Cc 4 ((Aa s).drop A2) A2 with
    |error er=>
     obtain⟨er,at_⟩:=er;rw[Ah hq3]at hR;rw[hq3]at KN;have KN':=A6 KN;unfold AV AY at KN';simp only at KN';have HG:Hid (∀w',Below E V2 w'->AZ RB V2 w'->AV E RB s w FN R (AY er at_) w'):=fun w' a b=>by rw[<-hR];exact D6.bad FN er at_ a b
     unfold AY at HG;clear D6 KN hq3 hR x6 z6;exact Rz
    |ok r=>
     obtain⟨n,l3,A3⟩:=r;rw[Ap hq3]at hR;rw[hq3]at KN;have KN':=A6 KN;unfold AV at KN';simp only at KN';have HG:Hid (∀w',Below E V2 w'->AZ RB V2 w'->Bq E RB s A3 w'->BN E RB s A3 w w'/\w'.rowIs X 66 5 (N9 (.int .i64 0) (.int .i64 0) (.bool false) (.int .u32 0) (.int .i64 0))/\w'.rowIs Y 66 5 (N9 (.int .i64 tk) (.int .i64 tp) (.bool kb) (.int .u32 0) (.int .i64 0))):=fun w' a b c=>⟨D6.next a b c,AC b x6 hXR,AC b z6 hYR⟩
     have HRR:Hid (R=.ok (⟨⟨tk,tp⟩,kb,(n:Int),0⟩,l3,A3)):=hR.symm;clear D6 KN hq3 hR x6 z6;go_upto_region 6 with(go_at_call 88;(with_reducible refine KN'.out.mono ?_);rintro e9 w7 ⟨rfl,hb7,ho7,hm7,hl7,hd7⟩;obtain⟨D7,x7,z7⟩:=HG.out _ hb7 ho7 hm7;have HL7:=A6 hl7;have HD7:=A6 hd7;have y7:w7.cell? ⟨Y,3,none⟩=some (.int .u32 0):=z7.cell (i:=3) dE;have f7:=z7.frozen 3;clear hb7 ho7 hm7 hl7 hd7)
     obtain⟨V3,hV3⟩:=gA (w7.setCell ⟨Y,3,none⟩ (.int .u32 (n:Int)))
     have x8:=x7.of_block (w':=V3) Ot;have z8:V3.rowIs Y 66 5 (N9 (.int .i64 tk) (.int .i64 tp) (.bool kb) (.int .u32 (n:Int)) (.int .i64 0)):=by
      rw[<-hV3];exact(z7.set 3 (.int .u32 (n:Int))).congr fun j hj=>by
       exact QH
     have D8:BN E RB s A3 w V3:=by rw[<-hV3];exact D7.set hE HRB.out hwY 3 _
     have b0:V3.cell? ⟨Y,0,none⟩=some (.int .i64 tk):=z8.cell (i:=0) dE;have b1:V3.cell? ⟨Y,1,none⟩=some (.int .i64 tp):=z8.cell (i:=1) dE;have b2:V3.cell? ⟨Y,2,none⟩=some (.bool kb):=z8.cell (i:=2) dE;have b3:V3.cell? ⟨Y,3,none⟩=some (.int .u32 (n:Int)):=z8.cell (i:=3) dE;have b4:V3.cell? ⟨Y,4,none⟩=some (.int .i64 0):=z8.cell (i:=4) dE;have x0:V3.cell? ⟨X,0,none⟩=some (.int .i64 0):=x8.cell (i:=0) dE;have x1:V3.cell? ⟨X,1,none⟩=some (.int .i64 0):=x8.cell (i:=1) dE;have x2:V3.cell? ⟨X,2,none⟩=some (.bool false):=x8.cell (i:=2) dE;have x3:V3.cell? ⟨X,3,none⟩=some (.int .u32 0):=x8.cell (i:=3) dE;have x4:V3.cell? ⟨X,4,none⟩=some (.int .i64 0):=x8.cell (i:=4) dE;have f0:=x8.frozen 0;have f1:=x8.frozen 1;have f2:=x8.frozen 2;have f3:=x8.frozen 3;have f4:=x8.frozen 4;have HD:=A6 (((((D8.set hE HRB.out HX.out 0 (.int .i64 tk)).set hE HRB.out HX.out 1 (.int .i64 tp)).set hE HRB.out HX.out 2 (.bool kb)).set hE HRB.out HX.out 3 (.int .u32 (n:Int))).set hE HRB.out HX.out 4 (.int .i64 0));exact Rs
theorem IJ(E RB:Nat)(s:ByteArray)(A:Nat)(w:World)(h:Bq E RB s A w)(hA:A<=s.size)(hs:s.size<=140737488355328)(hE:E<=w.heap.size):
 Calls prog 56 #[.pointer (some ⟨RB,0,none⟩),.int .i64 32768,.func (.func 57) #[.pointer (some ⟨RB,0,none⟩)] #[]] w (Ew E RB s w 70 7 BR (Bx 32768 DY ((Aa s).drop A) A)):=by
 have KN:Calls prog 84 #[.pointer (some ⟨RB,0,none⟩),.int .i64 32768] w (AV E RB s w (fun(b:Nat)=>.int .i64 (b:Int)) (Bh 32768 ((Aa s).drop A) A)):=CH E RB s A 32768 w h hA hs hE;have hRB:RB<w.heap.size:=h.b.lt;cases hq:Bh 32768 ((Aa s).drop A) A with
 |error er=>
  obtain⟨er,at_⟩:=er;have HP:Hid (Bx 32768 DY ((Aa s).drop A) A=.error (er,at_)):=by show Bx _ _ _ _=_;unfold Bx;exact Ah hq
  rw[HP.out];rw[hq]at KN;have KN':=A6 KN;unfold AV AY at KN';unfold Ew AY;simp only at KN' |-;clear h KN hq HP hRB;go_enter func56,ntmps56;exact Q3
 |ok r=>
  obtain⟨N,l1,A1⟩:=r;have hN:=CM hq;rw[hq]at KN;have KN':=A6 KN;unfold AV at KN';simp only at KN';have HST:Hid (l1=(Aa s).drop A1->Bx 32768 DY ((Aa s).drop A) A=Cp DY (N-0) [] ((Aa s).drop A1) A1):=fun e=>by
   exact Qd
  obtain⟨R,hR⟩:=gA (Bx 32768 DY ((Aa s).drop A) A)
  rw[hR]at HST |-;have HRB:=A6 hRB;have HE:=A6 hE;have HS:=A6 hs;clear h KN hq hR hRB hA hs hE;go_enter func56,ntmps56;go_upto_block 0 with(go_at_call 84;(with_reducible refine KN'.out.mono ?_);rintro e9 w4 ⟨rfl,hb4,ho4,hm4,hl4,hd4⟩;have HJ0:=A6 (And.intro hb4 (And.intro ho4 (And.intro hm4 (And.intro hl4 hd4))));clear hb4 ho4 hm4 hl4 hd4)
  go_wp2_with fail
  go_loopw [7,11] (fun lv iv wx=>∃ (k A':Nat) (xs:List AB) (p:Option Addr) (q:Nat),k<=N/\iv=.int .i64 (k:Int)/\lv=.slice p k q/\Hid (xs.length=k/\Below E w wx/\AZ RB w wx/\Bq E RB s A' wx/\A'<=s.size/\wx.ownsRow w.heap.size 70 7 (.slice p k q) k (AU BR xs)/\R=Cp DY (N-k) xs ((Aa s).drop A') A')) (fun _ iv _=>N-(intOf iv).toNat)
  case atStart=>
   obtain⟨j1,j2,j3,j4,j5⟩:=HJ0.out;exact⟨0,A1,[],none,0,gI _,rfl,rfl,rfl,j1,j2,j3,j4,World.ownsRow_nil _ _ _ 7,HST.out j5⟩
  case round=>
   clear HJ0 HST KN';obtain⟨k,A',xs,p,q,hk,rfl,rfl,HJ⟩:=hrel;by_cases hlt:k<N
   .obtain⟨j1,j2,j3,j4,j5,j6,j7⟩:=HJ.out;have e1:(k:Int)<(N:Int):=oM;have hEr:E<=wr.heap.size:=gH HE.out j3.1;have KX:=Me E RB s A' wr j4 j5 HS.out hEr;rw[show N-k=(N-(k+1))+1 by omega,CV]at j7;cases hq2:DY ((Aa s).drop A') A' with
    |error er=>
     obtain⟨er,at_⟩:=er;rw[Ah hq2]at j7;rw[hq2]at KX;have KX':=A6 KX;unfold AV AY at KX';simp only at KX';have HG:Hid (∀w',Below E wr w'->AZ RB wr w'->Ew E RB s w 70 7 BR R (AY er at_) w'):=fun w' a b=>by rw[j7];exact⟨rfl,j2.trans a,j3.trans b⟩
     unfold AY at HG;clear j1 j2 j3 j4 j5 j6 j7 hq2 KX HJ hEr hlt;go_wp2_with(go_at_call 57;(with_reducible refine KX'.out.mono ?_);rintro e9 w5 ⟨rfl,hb5,ho5⟩;have HR5:=A6 (HG.out _ hb5 ho5);clear hb5 ho5);exact⟨rfl,HR5.out⟩
    |ok r=>
     obtain⟨x,l2,A2⟩:=r;rw[Ap hq2]at j7;rw[hq2]at KX;have KX':=A6 KX;unfold AV at KX';simp only[Bo]at KX';have HAP:Hid (∀w5,AZ RB wr w5->∃g c' w6,(Builtin.append_ #[25,25] 25 #[.slice p k q,.slice (some ⟨w5.heap.size,0,none⟩) 1 1]).run prog (w5.alloc (.cells #[.int .i64 (x.op),.int .i64 (x.d),.int .i64 (x.a),.int .i64 (x.b),.int .i64 (x.c),.int .i64 (x.n),.int .u32 (x.bits)] 70))=.ok (.slice (some ⟨g,0,none⟩) (k+1) c') w6/\Below w.heap.size w5 w6/\w6.ownsRow w.heap.size 70 7 (.slice (some ⟨g,0,none⟩) (k+1) c') (k+1) (AU BR (xs++[x]))):=fun w5 ho=>by
      have hown:w5.ownsRow w.heap.size 70 7 (.slice p k q) k (AU BR xs):=As j6 fun b hb=>ho.2 b (j6.lt b hb).2 (fun e=>by have:=(j6.lt b hb).1;have:=HRB.out;omega);obtain⟨g,c',w6,a1,a2,a3,-⟩:=CL underlying25 G9 rfl dE hown (gH j3.1 ho.1) #[.int .i64 (x.op),.int .i64 (x.d),.int .i64 (x.a),.int .i64 (x.b),.int .i64 (x.c),.int .i64 (x.n),.int .u32 (x.bits)] rfl (fun u hu=>Jf x u hu) mL oM 25;exact Qe
     have HG:Hid (∀w5 w6,Below E wr w5->AZ RB wr w5->Bq E RB s A2 w5->Below w.heap.size w5 w6->Below E w w6/\AZ RB w w6/\Bq E RB s A2 w6):=fun w5 w6 a b c d=>
      ⟨(j2.trans a).trans (d.mono HE.out),⟨gH (j3.trans b).1 d.size,fun i hi hne=>(d.block i hi).trans ((j3.trans b).2 i hi hne)⟩,⟨c.b.of_block (d.block _ HRB.out),c.ge⟩⟩
     have HXL:Hid ((xs++[x]).length=k+1):=by show _=_;rw[List.length_append,j1];rfl
     have H7:=A6 j7;have wi:IntKind.i64.wrap ((k:Int)+1)=((k+1:Nat):Int):=by rw[IntKind.wrap_i64];omega
     clear j1 j2 j3 j4 j5 j6 j7 hq2 KX HJ hEr;go_wp2_with(first|(go_at_call 57;(with_reducible refine KX'.out.mono ?_);rintro e9 w5 ⟨rfl,hb5,ho5,hm5,hl5,hd5⟩;obtain⟨g,c',w6,hrun,hb6,ho6⟩:=HAP.out w5 ho5;have HRUN:=A6 hrun;have HO6:=A6 ho6;have HQ:=A6 (HG.out w5 w6 hb5 ho5 hm5 hb6);have HL5:=A6 hl5;have HD5:=A6 hd5;clear hb5 ho5 hm5 hl5 hd5 hrun hb6 ho6)|(at_builtin;refine AF rF _ _ _ rF _ _ _ rF rF HRUN.out ?_));exact Q2
   .obtain⟨j1,j2,j3,j4,j5,j6,j7⟩:=HJ.out;have e1:¬ (k:Int)<(N:Int):=oM;rw[show N-k=0 by omega,DJ]at j7;have HG:Hid (Ew E RB s w 70 7 BR R (.returned (.slice p k q)) wr):=by show Ew _ _ _ _ _ _ _ _ _ _;rw[j7];exact⟨_,rfl,by rw[j1];exact j6,j2,j3,j4,j5,rfl⟩
    clear j1 j2 j3 j4 j5 j6 j7 HJ hlt;go_wp2;refine bodyPost_ret (by simp[results,results56,go_sem, *];try rfl) rfl ?_;exact HG.out
theorem IL(E RB:Nat)(s:ByteArray)(A:Nat)(w:World)(h:Bq E RB s A w)(hA:A<=s.size)(hs:s.size<=140737488355328)(hE:E<=w.heap.size):
 Calls prog 54 #[.pointer (some ⟨RB,0,none⟩),.int .i64 4096,.func (.func 55) #[.pointer (some ⟨RB,0,none⟩)] #[]] w (Ew E RB s w 66 5 F8 (Bx 4096 Jp ((Aa s).drop A) A)):=by
 have KN:Calls prog 84 #[.pointer (some ⟨RB,0,none⟩),.int .i64 4096] w (AV E RB s w (fun(b:Nat)=>.int .i64 (b:Int)) (Bh 4096 ((Aa s).drop A) A)):=CH E RB s A 4096 w h hA hs hE;have hRB:RB<w.heap.size:=h.b.lt;cases hq:Bh 4096 ((Aa s).drop A) A with
 |error er=>
  obtain⟨er,at_⟩:=er;have HP:Hid (Bx 4096 Jp ((Aa s).drop A) A=.error (er,at_)):=by show Bx _ _ _ _=_;unfold Bx;exact Ah hq
  rw[HP.out];rw[hq]at KN;have KN':=A6 KN;unfold AV AY at KN';unfold Ew AY;simp only at KN' |-;clear h KN hq HP hRB;go_enter func54,ntmps54;exact Q3
 |ok r=>
  obtain⟨N,l1,A1⟩:=r;have hN:=CM hq;rw[hq]at KN;have KN':=A6 KN;unfold AV at KN';simp only at KN';have HST:Hid (l1=(Aa s).drop A1->Bx 4096 Jp ((Aa s).drop A) A=Cp Jp (N-0) [] ((Aa s).drop A1) A1):=fun e=>by
   exact Qd
  obtain⟨R,hR⟩:=gA (Bx 4096 Jp ((Aa s).drop A) A)
  rw[hR]at HST |-;have HRB:=A6 hRB;have HE:=A6 hE;have HS:=A6 hs;clear h KN hq hR hRB hA hs hE;go_enter func54,ntmps54;go_upto_block 0 with(go_at_call 84;(with_reducible refine KN'.out.mono ?_);rintro e9 w4 ⟨rfl,hb4,ho4,hm4,hl4,hd4⟩;have HJ0:=A6 (And.intro hb4 (And.intro ho4 (And.intro hm4 (And.intro hl4 hd4))));clear hb4 ho4 hm4 hl4 hd4)
  go_wp2_with fail
  go_loopw [7,11] (fun lv iv wx=>∃ (k A':Nat) (xs:List Sl) (p:Option Addr) (q:Nat),k<=N/\iv=.int .i64 (k:Int)/\lv=.slice p k q/\Hid (xs.length=k/\Below E w wx/\AZ RB w wx/\Bq E RB s A' wx/\A'<=s.size/\wx.ownsRow w.heap.size 66 5 (.slice p k q) k (AU F8 xs)/\R=Cp Jp (N-k) xs ((Aa s).drop A') A')) (fun _ iv _=>N-(intOf iv).toNat)
  case atStart=>
   obtain⟨j1,j2,j3,j4,j5⟩:=HJ0.out;exact⟨0,A1,[],none,0,gI _,rfl,rfl,rfl,j1,j2,j3,j4,World.ownsRow_nil _ _ _ 5,HST.out j5⟩
  case round=>
   clear HJ0 HST KN';obtain⟨k,A',xs,p,q,hk,rfl,rfl,HJ⟩:=hrel;by_cases hlt:k<N
   .obtain⟨j1,j2,j3,j4,j5,j6,j7⟩:=HJ.out;have e1:(k:Int)<(N:Int):=oM;have hEr:E<=wr.heap.size:=gH HE.out j3.1;have KX:=Nb E RB s A' wr j4 j5 HS.out hEr;rw[show N-k=(N-(k+1))+1 by omega,CV]at j7;cases hq2:Jp ((Aa s).drop A') A' with
    |error er=>
     obtain⟨er,at_⟩:=er;rw[Ah hq2]at j7;rw[hq2]at KX;have KX':=A6 KX;unfold AV AY at KX';simp only at KX';have HG:Hid (∀w',Below E wr w'->AZ RB wr w'->Ew E RB s w 66 5 F8 R (AY er at_) w'):=fun w' a b=>by rw[j7];exact⟨rfl,j2.trans a,j3.trans b⟩
     unfold AY at HG;clear j1 j2 j3 j4 j5 j6 j7 hq2 KX HJ hEr hlt;go_wp2_with(go_at_call 55;(with_reducible refine KX'.out.mono ?_);rintro e9 w5 ⟨rfl,hb5,ho5⟩;have HR5:=A6 (HG.out _ hb5 ho5);clear hb5 ho5);exact⟨rfl,HR5.out⟩
    |ok r=>
     obtain⟨x,l2,A2⟩:=r;rw[Ap hq2]at j7;rw[hq2]at KX;have KX':=A6 KX;unfold AV at KX';simp only[FN]at KX';have HAP:Hid (∀w5,AZ RB wr w5->∃g c' w6,(Builtin.append_ #[24,24] 24 #[.slice p k q,.slice (some ⟨w5.heap.size,0,none⟩) 1 1]).run prog (w5.alloc (.cells #[.int .i64 (x.ty.kind),.int .i64 (x.ty.par),.bool (x.keep),.int .u32 (x.bits),.int .i64 (x.int_)] 66))=.ok (.slice (some ⟨g,0,none⟩) (k+1) c') w6/\Below w.heap.size w5 w6/\w6.ownsRow w.heap.size 66 5 (.slice (some ⟨g,0,none⟩) (k+1) c') (k+1) (AU F8 (xs++[x]))):=fun w5 ho=>by
      have hown:w5.ownsRow w.heap.size 66 5 (.slice p k q) k (AU F8 xs):=As j6 fun b hb=>ho.2 b (j6.lt b hb).2 (fun e=>by have:=(j6.lt b hb).1;have:=HRB.out;omega);obtain⟨g,c',w6,a1,a2,a3,-⟩:=CL underlying24 Ga rfl dE hown (gH j3.1 ho.1) #[.int .i64 (x.ty.kind),.int .i64 (x.ty.par),.bool (x.keep),.int .u32 (x.bits),.int .i64 (x.int_)] rfl (fun u hu=>JV x u hu) mL oM 24;exact Qe
     have HG:Hid (∀w5 w6,Below E wr w5->AZ RB wr w5->Bq E RB s A2 w5->Below w.heap.size w5 w6->Below E w w6/\AZ RB w w6/\Bq E RB s A2 w6):=fun w5 w6 a b c d=>
      ⟨(j2.trans a).trans (d.mono HE.out),⟨gH (j3.trans b).1 d.size,fun i hi hne=>(d.block i hi).trans ((j3.trans b).2 i hi hne)⟩,⟨c.b.of_block (d.block _ HRB.out),c.ge⟩⟩
     have HXL:Hid ((xs++[x]).length=k+1):=by show _=_;rw[List.length_append,j1];rfl
     have H7:=A6 j7;have wi:IntKind.i64.wrap ((k:Int)+1)=((k+1:Nat):Int):=by rw[IntKind.wrap_i64];omega
     clear j1 j2 j3 j4 j5 j6 j7 hq2 KX HJ hEr;go_wp2_with(first|(go_at_call 55;(with_reducible refine KX'.out.mono ?_);rintro e9 w5 ⟨rfl,hb5,ho5,hm5,hl5,hd5⟩;obtain⟨g,c',w6,hrun,hb6,ho6⟩:=HAP.out w5 ho5;have HRUN:=A6 hrun;have HO6:=A6 ho6;have HQ:=A6 (HG.out w5 w6 hb5 ho5 hm5 hb6);have HL5:=A6 hl5;have HD5:=A6 hd5;clear hb5 ho5 hm5 hl5 hd5 hrun hb6 ho6)|(at_builtin;refine AF rF _ _ _ rF _ _ _ rF rF HRUN.out ?_));exact Q2
   .obtain⟨j1,j2,j3,j4,j5,j6,j7⟩:=HJ.out;have e1:¬ (k:Int)<(N:Int):=oM;rw[show N-k=0 by omega,DJ]at j7;have HG:Hid (Ew E RB s w 66 5 F8 R (.returned (.slice p k q)) wr):=by show Ew _ _ _ _ _ _ _ _ _ _;rw[j7];exact⟨_,rfl,by rw[j1];exact j6,j2,j3,j4,j5,rfl⟩
    clear j1 j2 j3 j4 j5 j6 j7 HJ hlt;go_wp2;refine bodyPost_ret (by simp[results,results54,go_sem, *];try rfl) rfl ?_;exact HG.out
theorem IK(E RB:Nat)(s:ByteArray)(A:Nat)(w:World)(h:Bq E RB s A w)(hA:A<=s.size)(hs:s.size<=140737488355328)(hE:E<=w.heap.size):
 Calls prog 50 #[.pointer (some ⟨RB,0,none⟩),.int .i64 64,.func (.func 51) #[.pointer (some ⟨RB,0,none⟩)] #[]] w (Ew E RB s w 59 3 Au (Bx 64 Ej ((Aa s).drop A) A)):=by
 have KN:Calls prog 84 #[.pointer (some ⟨RB,0,none⟩),.int .i64 64] w (AV E RB s w (fun(b:Nat)=>.int .i64 (b:Int)) (Bh 64 ((Aa s).drop A) A)):=CH E RB s A 64 w h hA hs hE;have hRB:RB<w.heap.size:=h.b.lt;cases hq:Bh 64 ((Aa s).drop A) A with
 |error er=>
  obtain⟨er,at_⟩:=er;have HP:Hid (Bx 64 Ej ((Aa s).drop A) A=.error (er,at_)):=by show Bx _ _ _ _=_;unfold Bx;exact Ah hq
  rw[HP.out];rw[hq]at KN;have KN':=A6 KN;unfold AV AY at KN';unfold Ew AY;simp only at KN' |-;clear h KN hq HP hRB;go_enter func50,ntmps50;exact Q3
 |ok r=>
  obtain⟨N,l1,A1⟩:=r;have hN:=CM hq;rw[hq]at KN;have KN':=A6 KN;unfold AV at KN';simp only at KN';have HST:Hid (l1=(Aa s).drop A1->Bx 64 Ej ((Aa s).drop A) A=Cp Ej (N-0) [] ((Aa s).drop A1) A1):=fun e=>by
   exact Qd
  obtain⟨R,hR⟩:=gA (Bx 64 Ej ((Aa s).drop A) A)
  rw[hR]at HST |-;have HRB:=A6 hRB;have HE:=A6 hE;have HS:=A6 hs;clear h KN hq hR hRB hA hs hE;go_enter func50,ntmps50;go_upto_block 0 with(go_at_call 84;(with_reducible refine KN'.out.mono ?_);rintro e9 w4 ⟨rfl,hb4,ho4,hm4,hl4,hd4⟩;have HJ0:=A6 (And.intro hb4 (And.intro ho4 (And.intro hm4 (And.intro hl4 hd4))));clear hb4 ho4 hm4 hl4 hd4)
  go_wp2_with fail
  go_loopw [7,11] (fun lv iv wx=>∃ (k A':Nat) (xs:List Be) (p:Option Addr) (q:Nat),k<=N/\iv=.int .i64 (k:Int)/\lv=.slice p k q/\Hid (xs.length=k/\Below E w wx/\AZ RB w wx/\Bq E RB s A' wx/\A'<=s.size/\wx.ownsRow w.heap.size 59 3 (.slice p k q) k (AU Au xs)/\R=Cp Ej (N-k) xs ((Aa s).drop A') A')) (fun _ iv _=>N-(intOf iv).toNat)
  case atStart=>
   obtain⟨j1,j2,j3,j4,j5⟩:=HJ0.out;exact⟨0,A1,[],none,0,gI _,rfl,rfl,rfl,j1,j2,j3,j4,World.ownsRow_nil _ _ _ 3,HST.out j5⟩
  case round=>
   clear HJ0 HST KN';obtain⟨k,A',xs,p,q,hk,rfl,rfl,HJ⟩:=hrel;by_cases hlt:k<N
   .obtain⟨j1,j2,j3,j4,j5,j6,j7⟩:=HJ.out;have e1:(k:Int)<(N:Int):=oM;have hEr:E<=wr.heap.size:=gH HE.out j3.1;have KX:=Ky E RB s A' wr j4 j5 HS.out hEr;rw[show N-k=(N-(k+1))+1 by omega,CV]at j7;cases hq2:Ej ((Aa s).drop A') A' with
    |error er=>
     obtain⟨er,at_⟩:=er;rw[Ah hq2]at j7;rw[hq2]at KX;have KX':=A6 KX;unfold AV AY at KX';simp only at KX';have HG:Hid (∀w',Below E wr w'->AZ RB wr w'->Ew E RB s w 59 3 Au R (AY er at_) w'):=fun w' a b=>by rw[j7];exact⟨rfl,j2.trans a,j3.trans b⟩
     unfold AY at HG;clear j1 j2 j3 j4 j5 j6 j7 hq2 KX HJ hEr hlt;go_wp2_with(go_at_call 51;(with_reducible refine KX'.out.mono ?_);rintro e9 w5 ⟨rfl,hb5,ho5⟩;have HR5:=A6 (HG.out _ hb5 ho5);clear hb5 ho5);exact⟨rfl,HR5.out⟩
    |ok r=>
     obtain⟨x,l2,A2⟩:=r;rw[Ap hq2]at j7;rw[hq2]at KX;have KX':=A6 KX;unfold AV at KX';simp only[pv]at KX';have HAP:Hid (∀w5,AZ RB wr w5->∃g c' w6,(Builtin.append_ #[22,22] 22 #[.slice p k q,.slice (some ⟨w5.heap.size,0,none⟩) 1 1]).run prog (w5.alloc (.cells #[.string (x.name),.int .i64 (x.kind),.int .i64 (x.len)] 59))=.ok (.slice (some ⟨g,0,none⟩) (k+1) c') w6/\Below w.heap.size w5 w6/\w6.ownsRow w.heap.size 59 3 (.slice (some ⟨g,0,none⟩) (k+1) c') (k+1) (AU Au (xs++[x]))):=fun w5 ho=>by
      have hown:w5.ownsRow w.heap.size 59 3 (.slice p k q) k (AU Au xs):=As j6 fun b hb=>ho.2 b (j6.lt b hb).2 (fun e=>by have:=(j6.lt b hb).1;have:=HRB.out;omega);obtain⟨g,c',w6,a1,a2,a3,-⟩:=CL underlying22 Fq rfl dE hown (gH j3.1 ho.1) #[.string (x.name),.int .i64 (x.kind),.int .i64 (x.len)] rfl (fun u hu=>Hk x u hu) mL oM 22;exact Qe
     have HG:Hid (∀w5 w6,Below E wr w5->AZ RB wr w5->Bq E RB s A2 w5->Below w.heap.size w5 w6->Below E w w6/\AZ RB w w6/\Bq E RB s A2 w6):=fun w5 w6 a b c d=>
      ⟨(j2.trans a).trans (d.mono HE.out),⟨gH (j3.trans b).1 d.size,fun i hi hne=>(d.block i hi).trans ((j3.trans b).2 i hi hne)⟩,⟨c.b.of_block (d.block _ HRB.out),c.ge⟩⟩
     have HXL:Hid ((xs++[x]).length=k+1):=by show _=_;rw[List.length_append,j1];rfl
     have H7:=A6 j7;have wi:IntKind.i64.wrap ((k:Int)+1)=((k+1:Nat):Int):=by rw[IntKind.wrap_i64];omega
     clear j1 j2 j3 j4 j5 j6 j7 hq2 KX HJ hEr;go_wp2_with(first|(go_at_call 51;(with_reducible refine KX'.out.mono ?_);rintro e9 w5 ⟨rfl,hb5,ho5,hm5,hl5,hd5⟩;obtain⟨g,c',w6,hrun,hb6,ho6⟩:=HAP.out w5 ho5;have HRUN:=A6 hrun;have HO6:=A6 ho6;have HQ:=A6 (HG.out w5 w6 hb5 ho5 hm5 hb6);have HL5:=A6 hl5;have HD5:=A6 hd5;clear hb5 ho5 hm5 hl5 hd5 hrun hb6 ho6)|(at_builtin;refine AF rF _ _ _ rF _ _ _ rF rF HRUN.out ?_));exact Q2
   .obtain⟨j1,j2,j3,j4,j5,j6,j7⟩:=HJ.out;have e1:¬ (k:Int)<(N:Int):=oM;rw[show N-k=0 by omega,DJ]at j7;have HG:Hid (Ew E RB s w 59 3 Au R (.returned (.slice p k q)) wr):=by show Ew _ _ _ _ _ _ _ _ _ _;rw[j7];exact⟨_,rfl,by rw[j1];exact j6,j2,j3,j4,j5,rfl⟩
    clear j1 j2 j3 j4 j5 j6 j7 HJ hlt;go_wp2;refine bodyPost_ret (by simp[results,results50,go_sem, *];try rfl) rfl ?_;exact HG.out
def Nk(E RB:Nat)(s:ByteArray)(w:World)(q:Except (Int×Nat) (Cd×List Nat×Nat))(e:Ending)(w':World):Prop:=
 match q with
 | .error (er,at_)=>e=AY er at_/\Below E w w'/\AZ RB w w'
 | .ok (c,l',A')=>∃p0 q0 p1 q1 p2 q2 p3 q3,e=.returned (.agg #[.slice p0 c.sign.length q0,.slice p1 c.regs.length q1,.slice p2 c.slots.length q2,.slice p3 c.list.length q3])/\Fb w.heap.size w' (.slice p0 c.sign.length q0) (.slice p1 c.regs.length q1) (.slice p2 c.slots.length q2) (.slice p3 c.list.length q3) c/\Below E w w'/\AZ RB w w'/\Bq E RB s A' w'/\A'<=s.size/\l'=(Aa s).drop A'
theorem BN.badC{E RB:Nat}{s:ByteArray}{A:Nat}{w v v':World}(h:BN E RB s A w v)(er:Int)(at_:Nat)(a:Below E v v')(b:AZ RB v v'):Nk E RB s w (.error (er,at_)) (AY er at_) v':=⟨rfl,h.1.trans a,h.2.1.trans b⟩
theorem CC{B B':Nat}{w:World}{t:TypeId}{k n:Nat}{u:Value}{xs:List Value}(h:w.ownsRow B t k u n xs)(hB:B'<=B):w.ownsRow B' t k u n xs:=⟨h.1,h.2.imp id fun⟨g,cap,cur,e,hb,r⟩=>⟨g,cap,cur,e,gH hB hb,r⟩⟩
theorem BZ{B RB:Nat}{w w':World}{t:TypeId}{k n:Nat}{u:Value}{xs:List Value}(h:w.ownsRow B t k u n xs)(hR:RB<B)(r:AZ RB w w'):w'.ownsRow B t k u n xs:=As h fun b hb=>r.2 b (h.lt b hb).2 QO
theorem Aw{B Y o:Nat}{w:World}{x:Value}{t:TypeId}{k n:Nat}{u:Value}{xs:List Value}(h:w.ownsRow B t k u n xs)(hY:Y<B):(w.setCell ⟨Y,o,none⟩ x).ownsRow B t k u n xs:=As h fun b hb=>gE (by show b≠Y;have:=(h.lt b hb).1;omega)
theorem KG(E RB:Nat)(s:ByteArray)(w:World)(h:Bq E RB s 0 w)(hs:s.size<=140737488355328)(hE:E<=w.heap.size):
 Calls prog 26 #[.pointer (some ⟨RB,0,none⟩)] w (Nk E RB s w (ID (Aa s) 0)):=by
 have hmf:∀ (fn:Fn) (first cap:Array Value) (w:World),(Instr.makeFunc fn first cap).run prog w=.ok (.func fn first cap) w:=fun _ _ _ _=>rfl;obtain⟨W0,hW0⟩:∃W,w.alloc (.cells #[.slice none 0 0,.slice none 0 0,.slice none 0 0,.slice none 0 0] 27)=W:=⟨_,rfl⟩
 have hb0:Below w.heap.size w W0:=by rw[<-hW0];exact A5 _ _
 have h0:=h.below hb0;have hE0:E<=W0.heap.size:=gH hE hb0.size;obtain⟨X,hX⟩:=gA (w.heap.size)
 have hXR:X≠RB:=by have:=h.b.lt;omega
 have hr0:W0.rowIs X 27 4 (f4 (.slice none 0 0) (.slice none 0 0) (.slice none 0 0) (.slice none 0 0)):=by
  rw[<-hW0,<-hX];exact Rr
 have KS:=LP E RB s W0 h0 hs hE0;obtain⟨R,hR⟩:=gA (ID (Aa s) 0)
 rw[hR];unfold ID at hR;have HRS:=A6 ((BN.start h).below hE hb0);cases hq:Fy (Aa s) 0 with
 |error er=>
  obtain⟨er,at_⟩:=er;have HP:R=.error (er,at_):=by rw[<-hR];exact Ah hq
  rw[hq]at KS;have KS':=A6 KS;have HG:Hid (∀w',Below E W0 w'->AZ RB W0 w'->Nk E RB s w R (AY er at_) w'):=fun w' a b=>by rw[HP];exact HRS.badC er at_ a b
  unfold AV AY at KS';unfold AY at HG;simp only at KS';clear h h0 hb0 hr0 KS hq HP hR hX hXR hE0;go_enter func26,ntmps26;go_upto_region 1 with fail;try rw[hW0]
  clear hW0;go_wp2_with(go_at_call 49;(with_reducible refine KS'.out.mono ?_);rintro e9 w4 ⟨rfl,hb4,ho4⟩;have HR5:=A6 (HG.out _ hb4 ho4);clear hb4 ho4);exact⟨rfl,HR5.out⟩
 |ok r=>
  obtain⟨u9,l',A0⟩:=r;rw[Ap hq]at hR;unfold Gg at hR;rw[hq]at KS;have KS':=A6 KS;unfold AV at KS';simp only at KS';have HR0:=A6 hr0;have HRB:=A6 h.b.lt;have HX:Hid (w.heap.size<=X):=Nat.le_of_eq hX;have HRR:=A6 hR;clear h h0 hb0 hr0 KS hE0 hR hq;go_enter func26,ntmps26;go_upto_region 1 with fail;try rw[hW0]
  try rw[hX]
  clear hW0 hX;go_upto_region 3 with(go_at_call 49;(with_reducible refine KS'.out.mono ?_);rintro e9 w4 ⟨rfl,hb4,ho4,hm4,hl4,hd4⟩;have HB4:=A6 hb4;have HO4:=A6 ho4;have HM4:=A6 hm4;have HD4:=A6 hd4;have HL0:=A6 hl4;clear hb4 ho4 hm4 hl4 hd4)
  obtain⟨Y,hY⟩:=gA (w4.heap.size)
  obtain⟨V0,hV⟩:∃V,w4.alloc (.cells #[.slice none 0 0,.slice none 0 0,.slice none 0 0,.slice none 0 0] 27)=V:=⟨_,rfl⟩
  have hbV:Below w4.heap.size w4 V0:=by rw[<-hV];exact A5 _ _
  have r4:=AC HO4.out HR0.out hXR;have rx0:=r4.of_block (hbV.block _ r4.lt);have ry0:V0.rowIs Y 27 4 (f4 (.slice none 0 0) (.slice none 0 0) (.slice none 0 0) (.slice none 0 0)):=by
   rw[<-hV,<-hY];exact World.rowIs_alloc w4 #[.slice none 0 0,.slice none 0 0,.slice none 0 0,.slice none 0 0] 27 _ (fun i hi=>by
    rcases(show i=0\/i=1\/i=2\/i=3 by have:i<4:=hi;omega)with rfl|rfl|rfl|rfl<;>rfl)
  have hXY:X≠Y:=by have:=r4.lt;omega
  have hXl:X<Y+1:=by have:=r4.lt;omega
  have hYR:Y≠RB:=by have:=HM4.b.lt;omega
  have hRY:RB<Y+1:=by have:=HM4.b.lt;omega
  have hwY:w.heap.size<=Y:=by have:=r4.lt;have:=HX.out;omega
  have D0:BN E RB s A0 w V0:=((HRS.next HB4.out HO4.out HM4.out).below hE hbV)
  have hR:=HRR.out;rw[HD4.out]at hR;try rw[hV]
  try rw[hY]
  clear hV hY hbV HRR KS' HB4 HO4 HM4 HD4 HR0 HRS r4;have KN:=IK E RB s A0 V0 D0.2.2 HL0.out hs (gH hE D0.2.1.1);cases hq0:Bx 64 Ej ((Aa s).drop A0) A0 with
  |error er=>
   obtain⟨er,at_⟩:=er;rw[Ah hq0]at hR;rw[hq0]at KN;have KN':=A6 KN;unfold Ew AY at KN';simp only at KN';have HG:Hid (∀w',Below E V0 w'->AZ RB V0 w'->Nk E RB s w R (AY er at_) w'):=fun w' a b=>by rw[<-hR];exact D0.badC er at_ a b
   unfold AY at HG;clear D0 KN hq0 hR rx0 ry0;go_wp2_with(go_at_call 50;(with_reducible refine KN'.out.mono ?_);rintro e9 w7 ⟨rfl,hb7,ho7⟩;have HR7:=A6 (HG.out _ hb7 ho7);clear hb7 ho7);exact⟨rfl,HR7.out⟩
  |ok r=>
   obtain⟨s0,l0,A1⟩:=r;rw[Ap hq0]at hR;rw[hq0]at KN;have KN':=A6 KN;unfold Ew at KN';simp only at KN';have HYV:Hid (Y+1<=V0.heap.size):=ry0.lt;have HG:Hid (∀w',Below E V0 w'->AZ RB V0 w'->Bq E RB s A1 w'->BN E RB s A1 w w'/\w'.rowIs X 27 4 (f4 (.slice none 0 0) (.slice none 0 0) (.slice none 0 0) (.slice none 0 0))/\w'.rowIs Y 27 4 (f4 (.slice none 0 0) (.slice none 0 0) (.slice none 0 0) (.slice none 0 0))):=fun w' a b c=>⟨D0.next a b c,AC b rx0 hXR,AC b ry0 hYR⟩
   have HRR:=A6 hR;clear D0 KN hq0 hR rx0 ry0;go_upto_region 4 with(go_at_call 50;(with_reducible refine KN'.out.mono ?_);rintro e9 w7 ⟨v7,rfl,hw7,hb7,ho7,hm7,hl7,hd7⟩;obtain⟨p0,q0,rfl⟩:=At hw7;obtain⟨D7,x7,z7⟩:=HG.out _ hb7 ho7 hm7;have HL1:=A6 hl7;have HD7:=A6 hd7;have HW7:=A6 (CC hw7 HYV.out);have y7:w7.cell? ⟨Y,0,none⟩=some (.slice none 0 0):=z7.cell (i:=0) dE;have f7:=z7.frozen 0;clear hb7 ho7 hm7 hl7 hd7 hw7)
   obtain⟨V1,hV3⟩:∃V3,w7.setCell ⟨Y,0,none⟩ (.slice p0 s0.length q0)=V3:=⟨_,rfl⟩
   have rx1:=x7.of_block (w':=V1) Ot;have AR:V1.rowIs Y 27 4 (f4 (.slice p0 s0.length q0) (.slice none 0 0) (.slice none 0 0) (.slice none 0 0)):=by
    rw[<-hV3];exact(z7.set 0 (.slice p0 s0.length q0)).congr fun j hj=>by
     exact OI
   have D1:BN E RB s A1 w V1:=by rw[<-hV3];exact D7.set hE HRB.out hwY 0 _
   have o0:V1.ownsRow (Y+1) 59 3 (.slice p0 s0.length q0) s0.length (AU Au s0):=by rw[<-hV3];exact Aw HW7.out oM
   have hR:=HRR.out;rw[HD7.out]at hR;try rw[hV3]
   clear hV3 D7 x7 z7 y7 f7 KN' HG HRR HD7 HYV HW7;have KN:=IM E RB s A1 V1 D1.2.2 HL1.out hs (gH hE D1.2.1.1);cases hq1:Bx 16384 Hj ((Aa s).drop A1) A1 with
   |error er=>
    obtain⟨er,at_⟩:=er;rw[Ah hq1]at hR;rw[hq1]at KN;have KN':=A6 KN;unfold Ew AY at KN';simp only at KN';have HG:Hid (∀w',Below E V1 w'->AZ RB V1 w'->Nk E RB s w R (AY er at_) w'):=fun w' a b=>by rw[<-hR];exact D1.badC er at_ a b
    unfold AY at HG;clear D1 KN hq1 hR rx1 AR o0;go_wp2_with(go_at_call 52;(with_reducible refine KN'.out.mono ?_);rintro e9 w7 ⟨rfl,hb7,ho7⟩;have HR7:=A6 (HG.out _ hb7 ho7);clear hb7 ho7);exact⟨rfl,HR7.out⟩
   |ok r=>
    obtain⟨s1,l1,A2⟩:=r;rw[Ap hq1]at hR;rw[hq1]at KN;have KN':=A6 KN;unfold Ew at KN';simp only at KN';have HYV:Hid (Y+1<=V1.heap.size):=AR.lt;have HG:Hid (∀w',Below E V1 w'->AZ RB V1 w'->Bq E RB s A2 w'->BN E RB s A2 w w'/\w'.rowIs X 27 4 (f4 (.slice none 0 0) (.slice none 0 0) (.slice none 0 0) (.slice none 0 0))/\w'.rowIs Y 27 4 (f4 (.slice p0 s0.length q0) (.slice none 0 0) (.slice none 0 0) (.slice none 0 0))/\w'.ownsRow (Y+1) 59 3 (.slice p0 s0.length q0) s0.length (AU Au s0)):=fun w' a b c=>⟨D1.next a b c,AC b rx1 hXR,AC b AR hYR,BZ o0 hRY b⟩
    have HRR:=A6 hR;clear D1 KN hq1 hR rx1 AR o0;go_upto_region 5 with(go_at_call 52;(with_reducible refine KN'.out.mono ?_);rintro e9 w7 ⟨v7,rfl,hw7,hb7,ho7,hm7,hl7,hd7⟩;obtain⟨p1,q1,rfl⟩:=At hw7;obtain⟨D7,x7,z7,k0⟩:=HG.out _ hb7 ho7 hm7;have HL2:=A6 hl7;have HD7:=A6 hd7;have HW7:=A6 (CC hw7 HYV.out);have y7:w7.cell? ⟨Y,1,none⟩=some (.slice none 0 0):=z7.cell (i:=1) dE;have f7:=z7.frozen 1;clear hb7 ho7 hm7 hl7 hd7 hw7)
    obtain⟨V2,hV3⟩:∃V3,w7.setCell ⟨Y,1,none⟩ (.slice p1 s1.length q1)=V3:=⟨_,rfl⟩
    have rx2:=x7.of_block (w':=V2) Ot;have ry2:V2.rowIs Y 27 4 (f4 (.slice p0 s0.length q0) (.slice p1 s1.length q1) (.slice none 0 0) (.slice none 0 0)):=by
     rw[<-hV3];exact(z7.set 1 (.slice p1 s1.length q1)).congr fun j hj=>by
      exact OI
    have D2:BN E RB s A2 w V2:=by rw[<-hV3];exact D7.set hE HRB.out hwY 1 _
    have o0:V2.ownsRow (Y+1) 59 3 (.slice p0 s0.length q0) s0.length (AU Au s0):=by rw[<-hV3];exact Aw k0 oM
    have o1:V2.ownsRow (Y+1) 62 2 (.slice p1 s1.length q1) s1.length (AU Ey s1):=by rw[<-hV3];exact Aw HW7.out oM
    have hR:=HRR.out;rw[HD7.out]at hR;try rw[hV3]
    clear hV3 D7 x7 z7 y7 f7 KN' HG HRR HD7 HYV HW7 k0;have KN:=IL E RB s A2 V2 D2.2.2 HL2.out hs (gH hE D2.2.1.1);cases hq2:Bx 4096 Jp ((Aa s).drop A2) A2 with
    |error er=>
     obtain⟨er,at_⟩:=er;rw[Ah hq2]at hR;rw[hq2]at KN;have KN':=A6 KN;unfold Ew AY at KN';simp only at KN';have HG:Hid (∀w',Below E V2 w'->AZ RB V2 w'->Nk E RB s w R (AY er at_) w'):=fun w' a b=>by rw[<-hR];exact D2.badC er at_ a b
     unfold AY at HG;clear D2 KN hq2 hR rx2 ry2 o0 o1;go_wp2_with(go_at_call 54;(with_reducible refine KN'.out.mono ?_);rintro e9 w7 ⟨rfl,hb7,ho7⟩;have HR7:=A6 (HG.out _ hb7 ho7);clear hb7 ho7);exact⟨rfl,HR7.out⟩
    |ok r=>
     obtain⟨s2,l2,A3⟩:=r;rw[Ap hq2]at hR;rw[hq2]at KN;have KN':=A6 KN;unfold Ew at KN';simp only at KN';have HYV:Hid (Y+1<=V2.heap.size):=ry2.lt;have HG:Hid (∀w',Below E V2 w'->AZ RB V2 w'->Bq E RB s A3 w'->BN E RB s A3 w w'/\w'.rowIs X 27 4 (f4 (.slice none 0 0) (.slice none 0 0) (.slice none 0 0) (.slice none 0 0))/\w'.rowIs Y 27 4 (f4 (.slice p0 s0.length q0) (.slice p1 s1.length q1) (.slice none 0 0) (.slice none 0 0))/\w'.ownsRow (Y+1) 59 3 (.slice p0 s0.length q0) s0.length (AU Au s0)/\w'.ownsRow (Y+1) 62 2 (.slice p1 s1.length q1) s1.length (AU Ey s1)):=fun w' a b c=>⟨D2.next a b c,AC b rx2 hXR,AC b ry2 hYR,BZ o0 hRY b,BZ o1 hRY b⟩
     have HRR:=A6 hR;clear D2 KN hq2 hR rx2 ry2 o0 o1;go_upto_region 6 with(go_at_call 54;(with_reducible refine KN'.out.mono ?_);rintro e9 w7 ⟨v7,rfl,hw7,hb7,ho7,hm7,hl7,hd7⟩;obtain⟨p2,q2,rfl⟩:=At hw7;obtain⟨D7,x7,z7,k0,k1⟩:=HG.out _ hb7 ho7 hm7;have HL3:=A6 hl7;have HD7:=A6 hd7;have HW7:=A6 (CC hw7 HYV.out);have y7:w7.cell? ⟨Y,2,none⟩=some (.slice none 0 0):=z7.cell (i:=2) dE;have f7:=z7.frozen 2;clear hb7 ho7 hm7 hl7 hd7 hw7)
     obtain⟨V3,hV3⟩:=gA (w7.setCell ⟨Y,2,none⟩ (.slice p2 s2.length q2))
     have rx3:=x7.of_block (w':=V3) Ot;have ry3:V3.rowIs Y 27 4 (f4 (.slice p0 s0.length q0) (.slice p1 s1.length q1) (.slice p2 s2.length q2) (.slice none 0 0)):=by
      rw[<-hV3];exact(z7.set 2 (.slice p2 s2.length q2)).congr fun j hj=>by
       exact OI
     have D3:BN E RB s A3 w V3:=by rw[<-hV3];exact D7.set hE HRB.out hwY 2 _
     have o0:V3.ownsRow (Y+1) 59 3 (.slice p0 s0.length q0) s0.length (AU Au s0):=by rw[<-hV3];exact Aw k0 oM
     have o1:V3.ownsRow (Y+1) 62 2 (.slice p1 s1.length q1) s1.length (AU Ey s1):=by rw[<-hV3];exact Aw k1 oM
     have o2:V3.ownsRow (Y+1) 66 5 (.slice p2 s2.length q2) s2.length (AU F8 s2):=by rw[<-hV3];exact Aw HW7.out oM
     have hR:=HRR.out;rw[HD7.out]at hR;try rw[hV3]
     clear hV3 D7 x7 z7 y7 f7 KN' HG HRR HD7 HYV HW7 k0 k1;have KN:=IJ E RB s A3 V3 D3.2.2 HL3.out hs (gH hE D3.2.1.1);cases hq3:Bx 32768 DY ((Aa s).drop A3) A3 with
     |error er=>
      obtain⟨er,at_⟩:=er;rw[Ah hq3]at hR;rw[hq3]at KN;have KN':=A6 KN;unfold Ew AY at KN';simp only at KN';have HG:Hid (∀w',Below E V3 w'->AZ RB V3 w'->Nk E RB s w R (AY er at_) w'):=fun w' a b=>by rw[<-hR];exact D3.badC er at_ a b
      unfold AY at HG;clear D3 KN hq3 hR rx3 ry3 o0 o1 o2;go_wp2_with(go_at_call 56;(with_reducible refine KN'.out.mono ?_);rintro e9 w7 ⟨rfl,hb7,ho7⟩;have HR7:=A6 (HG.out _ hb7 ho7);clear hb7 ho7);exact⟨rfl,HR7.out⟩
     |ok r=>
      obtain⟨s3,l3,A4⟩:=r;rw[Ap hq3]at hR;rw[hq3]at KN;have KN':=A6 KN;unfold Ew at KN';simp only at KN';have HYV:Hid (Y+1<=V3.heap.size):=ry3.lt;have HG:Hid (∀w',Below E V3 w'->AZ RB V3 w'->Bq E RB s A4 w'->BN E RB s A4 w w'/\w'.rowIs X 27 4 (f4 (.slice none 0 0) (.slice none 0 0) (.slice none 0 0) (.slice none 0 0))/\w'.rowIs Y 27 4 (f4 (.slice p0 s0.length q0) (.slice p1 s1.length q1) (.slice p2 s2.length q2) (.slice none 0 0))/\w'.ownsRow (Y+1) 59 3 (.slice p0 s0.length q0) s0.length (AU Au s0)/\w'.ownsRow (Y+1) 62 2 (.slice p1 s1.length q1) s1.length (AU Ey s1)/\w'.ownsRow (Y+1) 66 5 (.slice p2 s2.length q2) s2.length (AU F8 s2)):=fun w' a b c=>⟨D3.next a b c,AC b rx3 hXR,AC b ry3 hYR,BZ o0 hRY b,BZ o1 hRY b,BZ o2 hRY b⟩
      have HRR:=A6 hR;clear D3 KN hq3 hR rx3 ry3 o0 o1 o2;go_upto_region 7 with(go_at_call 56;(with_reducible refine KN'.out.mono ?_);rintro e9 w7 ⟨v7,rfl,hw7,hb7,ho7,hm7,hl7,hd7⟩;obtain⟨p3,q3,rfl⟩:=At hw7;obtain⟨D7,x7,z7,k0,k1,k2⟩:=HG.out _ hb7 ho7 hm7;have HL4:=A6 hl7;have HD7:=A6 hd7;have HW7:=A6 (CC hw7 HYV.out);have y7:w7.cell? ⟨Y,3,none⟩=some (.slice none 0 0):=z7.cell (i:=3) dE;have f7:=z7.frozen 3;clear hb7 ho7 hm7 hl7 hd7 hw7)
      obtain⟨V4,hV3⟩:∃V3,w7.setCell ⟨Y,3,none⟩ (.slice p3 s3.length q3)=V3:=⟨_,rfl⟩
      have rx4:=x7.of_block (w':=V4) Ot;have ry4:V4.rowIs Y 27 4 (f4 (.slice p0 s0.length q0) (.slice p1 s1.length q1) (.slice p2 s2.length q2) (.slice p3 s3.length q3)):=by
       rw[<-hV3];exact(z7.set 3 (.slice p3 s3.length q3)).congr fun j hj=>by
        exact OI
      have D4:BN E RB s A4 w V4:=by rw[<-hV3];exact D7.set hE HRB.out hwY 3 _
      have o0:V4.ownsRow (Y+1) 59 3 (.slice p0 s0.length q0) s0.length (AU Au s0):=by rw[<-hV3];exact Aw k0 oM
      have o1:V4.ownsRow (Y+1) 62 2 (.slice p1 s1.length q1) s1.length (AU Ey s1):=by rw[<-hV3];exact Aw k1 oM
      have o2:V4.ownsRow (Y+1) 66 5 (.slice p2 s2.length q2) s2.length (AU F8 s2):=by rw[<-hV3];exact Aw k2 oM
      have o3:V4.ownsRow (Y+1) 70 7 (.slice p3 s3.length q3) s3.length (AU BR s3):=by rw[<-hV3];exact Aw HW7.out oM
      have hR:=HRR.out;rw[HD7.out]at hR;try rw[hV3]
      clear hV3 D7 x7 z7 y7 f7 KN' HG HRR HD7 HYV HW7 k0 k1 k2;have b0:V4.cell? ⟨Y,0,none⟩=some (.slice p0 s0.length q0):=ry4.cell (i:=0) dE;have x0:V4.cell? ⟨X,0,none⟩=some (.slice none 0 0):=rx4.cell (i:=0) dE;have f0:=rx4.frozen 0;have b1:V4.cell? ⟨Y,1,none⟩=some (.slice p1 s1.length q1):=ry4.cell (i:=1) dE;have x1:V4.cell? ⟨X,1,none⟩=some (.slice none 0 0):=rx4.cell (i:=1) dE;have f1:=rx4.frozen 1;have b2:V4.cell? ⟨Y,2,none⟩=some (.slice p2 s2.length q2):=ry4.cell (i:=2) dE;have x2:V4.cell? ⟨X,2,none⟩=some (.slice none 0 0):=rx4.cell (i:=2) dE;have f2:=rx4.frozen 2;have b3:V4.cell? ⟨Y,3,none⟩=some (.slice p3 s3.length q3):=ry4.cell (i:=3) dE;have x3:V4.cell? ⟨X,3,none⟩=some (.slice none 0 0):=rx4.cell (i:=3) dE;have f3:=rx4.frozen 3;have HD:=A6 ((((D4.set hE HRB.out HX.out 0 (.slice p0 s0.length q0)).set hE HRB.out HX.out 1 (.slice p1 s1.length q1)).set hE HRB.out HX.out 2 (.slice p2 s2.length q2)).set hE HRB.out HX.out 3 (.slice p3 s3.length q3));obtain⟨W9,hW9⟩:∃W,(((V4.setCell ⟨X,0,none⟩ (.slice p0 s0.length q0)).setCell ⟨X,1,none⟩ (.slice p1 s1.length q1)).setCell ⟨X,2,none⟩ (.slice p2 s2.length q2)).setCell ⟨X,3,none⟩ (.slice p3 s3.length q3)=W:=⟨_,rfl⟩
      have HO9:Hid (Fb w.heap.size ((((V4.setCell ⟨X,0,none⟩ (.slice p0 s0.length q0)).setCell ⟨X,1,none⟩ (.slice p1 s1.length q1)).setCell ⟨X,2,none⟩ (.slice p2 s2.length q2)).setCell ⟨X,3,none⟩ (.slice p3 s3.length q3)) (.slice p0 s0.length q0) (.slice p1 s1.length q1) (.slice p2 s2.length q2) (.slice p3 s3.length q3) ⟨s0,s1,s2,s3⟩):=⟨CC (Aw (Aw (Aw (Aw o0 hXl) hXl) hXl) hXl) (gH hwY (Nat.le_succ _)),CC (Aw (Aw (Aw (Aw o1 hXl) hXl) hXl) hXl) (gH hwY (Nat.le_succ _)),CC (Aw (Aw (Aw (Aw o2 hXl) hXl) hXl) hXl) (gH hwY (Nat.le_succ _)),CC (Aw (Aw (Aw (Aw o3 hXl) hXl) hXl) hXl) (gH hwY (Nat.le_succ _))⟩
      have HRR:Hid (R=.ok (⟨s0,s1,s2,s3⟩,(Aa s).drop A4,A4)):=hR.symm;clear hW9 D4 rx4 ry4 hR o0 o1 o2 o3;go_wp2;refine bodyPost_ret (by simp[results,results26,go_sem, *];try rfl) rfl ?_;rw[HRR.out];exact⟨p0,q0,p1,q1,p2,q2,p3,q3,rfl,HO9.out,HD.1,HD.2.1,HD.2.2,HL4.out,rfl⟩
theorem GH(x:Value)(w:World):(Instr.typeAssert (.iface 72 x) 20 72 true).run prog w=.ok (.tuple #[x,.bool true]) w:=by
 simp[Instr.typeAssert,run_underlying underlying72,go_sem,Result.andThen]
theorem Ib(p q r:Addr)(w:World):
 CallsD prog 25 #[.pointer (some p),.pointer (some q),.pointer (some r)] .returning w fun e u' w'=>e=.returned (.tuple #[])/\u'=.returning/\w'=w:=by
 refine callsD_of_wpS func25 rfl fun c₀ cs hu=>?_;apply wpS_seq;apply wpS_region;simp[wpOpsS,go_sem,recoverD,hu,ntmps25,Exit.thenS];apply wpS_seq;apply wpS_seq;apply wpS_region;simp[wpOpsS,go_sem,Exit.thenS];refine wpS_cond (t:=true) (by simp[Act.eval,Array.replicate]) ?_;simp only[if_true];refine wpS_of_wp (wp_ret ?_);cases c₀
 simp_all [bodyPostS,results,results25,Exit.thenS]
theorem Ea(C:Nat)(er at_:Int){w V:World}{f g k:Nat->Value}(hb:Below C w V)(rc:V.rowIs C 27 4 f)(re:V.rowIs (C+1) 29 1 g)(ra:V.rowIs (C+2) 3 1 k):
 Below C w ((((((V.setCell ⟨C,0,none⟩ (.slice none 0 0)).setCell ⟨C,1,none⟩ (.slice none 0 0)).setCell ⟨C,2,none⟩ (.slice none 0 0)).setCell ⟨C,3,none⟩ (.slice none 0 0)).setCell ⟨C+1,0,none⟩ (.int .i64 er)).setCell ⟨C+2,0,none⟩ (.int .i64 at_))/\((((((V.setCell ⟨C,0,none⟩ (.slice none 0 0)).setCell ⟨C,1,none⟩ (.slice none 0 0)).setCell ⟨C,2,none⟩ (.slice none 0 0)).setCell ⟨C,3,none⟩ (.slice none 0 0)).setCell ⟨C+1,0,none⟩ (.int .i64 er)).setCell ⟨C+2,0,none⟩ (.int .i64 at_)).rowIs C 27 4 (fun _=>.slice none 0 0)/\((((((V.setCell ⟨C,0,none⟩ (.slice none 0 0)).setCell ⟨C,1,none⟩ (.slice none 0 0)).setCell ⟨C,2,none⟩ (.slice none 0 0)).setCell ⟨C,3,none⟩ (.slice none 0 0)).setCell ⟨C+1,0,none⟩ (.int .i64 er)).setCell ⟨C+2,0,none⟩ (.int .i64 at_)).rowIs (C+1) 29 1 (fun _=>.int .i64 er)/\((((((V.setCell ⟨C,0,none⟩ (.slice none 0 0)).setCell ⟨C,1,none⟩ (.slice none 0 0)).setCell ⟨C,2,none⟩ (.slice none 0 0)).setCell ⟨C,3,none⟩ (.slice none 0 0)).setCell ⟨C+1,0,none⟩ (.int .i64 er)).setCell ⟨C+2,0,none⟩ (.int .i64 at_)).rowIs (C+2) 3 1 (fun _=>.int .i64 at_):=by
 obtain⟨V1,h0⟩:∃V',V.setCell ⟨C,0,none⟩ (.slice none 0 0)=V':=⟨_,rfl⟩
 have b0:Below C w V1:=by rw[<-h0];exact hb.setCell Ow _
 have rc0:=rc.set 0 (.slice none 0 0);rw[h0]at rc0;have re0:=re.of_block (w':=V1) (by rw[<-h0];exact gE Ov);have ra0:=ra.of_block (w':=V1) (by rw[<-h0];exact gE Ou);rw[h0];obtain⟨V2,h1⟩:∃V',V1.setCell ⟨C,1,none⟩ (.slice none 0 0)=V':=⟨_,rfl⟩
 have b1:Below C w V2:=by rw[<-h1];exact b0.setCell Ow _
 have rc1:=rc0.set 1 (.slice none 0 0);rw[h1]at rc1;have re1:=re0.of_block (w':=V2) (by rw[<-h1];exact gE Ov);have ra1:=ra0.of_block (w':=V2) (by rw[<-h1];exact gE Ou);rw[h1];obtain⟨V3,h2⟩:∃V',V2.setCell ⟨C,2,none⟩ (.slice none 0 0)=V':=⟨_,rfl⟩
 have b2:Below C w V3:=by rw[<-h2];exact b1.setCell Ow _
 have rc2:=rc1.set 2 (.slice none 0 0);rw[h2]at rc2;have re2:=re1.of_block (w':=V3) (by rw[<-h2];exact gE Ov);have ra2:=ra1.of_block (w':=V3) (by rw[<-h2];exact gE Ou);rw[h2];obtain⟨V4,h3⟩:∃V',V3.setCell ⟨C,3,none⟩ (.slice none 0 0)=V':=⟨_,rfl⟩
 have b3:Below C w V4:=by rw[<-h3];exact b2.setCell Ow _
 have rc3:=rc2.set 3 (.slice none 0 0);rw[h3]at rc3;have re3:=re2.of_block (w':=V4) (by rw[<-h3];exact gE Ov);have ra3:=ra2.of_block (w':=V4) (by rw[<-h3];exact gE Ou);rw[h3];obtain⟨V5,h4⟩:∃V',V4.setCell ⟨C+1,0,none⟩ (.int .i64 er)=V':=⟨_,rfl⟩
 have b4:Below C w V5:=by rw[<-h4];exact b3.setCell (by show C<=C+1;omega) _
 have rc4:=rc3.of_block (w':=V5) RV;have re4:=re3.set 0 (.int .i64 er);rw[h4]at re4;have ra4:=ra3.of_block (w':=V5) RT;rw[h4];obtain⟨V6,h5⟩:∃V',V5.setCell ⟨C+2,0,none⟩ (.int .i64 at_)=V':=⟨_,rfl⟩
 have b5:Below C w V6:=by rw[<-h5];exact b4.setCell (by show C<=C+2;omega) _
 have rc5:=rc4.of_block (w':=V6) RU;have re5:=re4.of_block (w':=V6) RR;have ra5:=ra4.set 0 (.int .i64 at_);rw[h5]at ra5;rw[h5];refine⟨b5,rc5.congr fun j hj=>?_,re5.congr fun j hj=>?_,ra5.congr fun j hj=>?_⟩
 .exact OI
 .have:j=0:=oM;subst this;rfl
 .have:j=0:=oM;subst this;rfl
theorem L9{C:Nat}{w V:World}{a b c:Nat->Value}(h:Below C w V/\V.rowIs C 27 4 a/\V.rowIs (C+1) 29 1 b/\V.rowIs (C+2) 3 1 c):Below C w V.drew/\V.drew.rowIs C 27 4 a/\V.drew.rowIs (C+1) 29 1 b/\V.drew.rowIs (C+2) 3 1 c:=⟨h.1.drew,h.2.1.of_block rfl,h.2.2.1.of_block rfl,h.2.2.2.of_block rfl⟩
theorem GX(C:Nat)(er:Int)(at_:Nat){w V:World}{f g k:Nat->Value}(hb:Below C w V)(rc:V.rowIs C 27 4 f)(re:V.rowIs (C+1) 29 1 g)(ra:V.rowIs (C+2) 3 1 k):
 Below C w ((((((V.setCell ⟨C,0,none⟩ (.slice none 0 0)).setCell ⟨C,1,none⟩ (.slice none 0 0)).setCell ⟨C,2,none⟩ (.slice none 0 0)).setCell ⟨C,3,none⟩ (.slice none 0 0)).setCell ⟨C+1,0,none⟩ (.int .i64 er)).setCell ⟨C+2,0,none⟩ (.int .i64 (at_:Int))).drew/\((((((V.setCell ⟨C,0,none⟩ (.slice none 0 0)).setCell ⟨C,1,none⟩ (.slice none 0 0)).setCell ⟨C,2,none⟩ (.slice none 0 0)).setCell ⟨C,3,none⟩ (.slice none 0 0)).setCell ⟨C+1,0,none⟩ (.int .i64 er)).setCell ⟨C+2,0,none⟩ (.int .i64 (at_:Int))).drew.rowIs C 27 4 (fun _=>.slice none 0 0)/\((((((V.setCell ⟨C,0,none⟩ (.slice none 0 0)).setCell ⟨C,1,none⟩ (.slice none 0 0)).setCell ⟨C,2,none⟩ (.slice none 0 0)).setCell ⟨C,3,none⟩ (.slice none 0 0)).setCell ⟨C+1,0,none⟩ (.int .i64 er)).setCell ⟨C+2,0,none⟩ (.int .i64 (at_:Int))).drew.rowIs (C+1) 29 1 (fun _=>.int .i64 er)/\((((((V.setCell ⟨C,0,none⟩ (.slice none 0 0)).setCell ⟨C,1,none⟩ (.slice none 0 0)).setCell ⟨C,2,none⟩ (.slice none 0 0)).setCell ⟨C,3,none⟩ (.slice none 0 0)).setCell ⟨C+1,0,none⟩ (.int .i64 er)).setCell ⟨C+2,0,none⟩ (.int .i64 (at_:Int))).drew.rowIs (C+2) 3 1 (fun _=>.int .i64 (at_:Int)):=
 L9 (Ea C er (at_:Int) hb rc re ra)
theorem GY(C:Nat)(er:Int)(at_:Nat)(older:List PanicEntry)(w:World)(f g k:Nat->Value)(hc:w.rowIs C 27 4 f)(he:w.rowIs (C+1) 29 1 g)(ha:w.rowIs (C+2) 3 1 k):
 CallsD prog 25 #[.pointer (some ⟨C,0,none⟩),.pointer (some ⟨C+1,0,none⟩),.pointer (some ⟨C+2,0,none⟩)] (.panicking ({v:=.iface 72 (.agg #[.int .i64 er,.int .i64 (at_:Int)]),recovered:=false}::older)) w fun e u' w'=>
  e=.returned (.tuple #[])/\u'=.panicking ({v:=.iface 72 (.agg #[.int .i64 er,.int .i64 (at_:Int)]),recovered:=true}::older)/\Below C w w'/\w'.rowIs C 27 4 (fun _=>.slice none 0 0)/\w'.rowIs (C+1) 29 1 (fun _=>.int .i64 er)/\w'.rowIs (C+2) 3 1 (fun _=>.int .i64 (at_:Int)):=by
 refine callsD_of_wpS func25 rfl fun c₀ cs hu=>?_;apply wpS_seq;apply wpS_region;simp[wpOpsS,go_sem,recoverD,hu,ntmps25,Exit.thenS];apply wpS_seq;apply wpS_seq;apply wpS_region;simp[wpOpsS,go_sem,Exit.thenS];refine wpS_cond (t:=false) (by simp[Act.eval,Array.replicate]) ?_;simp only[Bool.false_eq_true,if_false];refine wpS_of_wp (wp_skip ?_);simp only[Exit.thenS];obtain⟨G,hG⟩:=gA (w.heap.size)
 obtain⟨W,hW⟩:=gA (w.alloc (.cells #[.int .i64 er,.int .i64 (at_:Int)] 72))
 have hb:Below w.heap.size w W:=by rw[<-hW];exact A5 _ _
 have g0:W.cell? ⟨G,0,none⟩=some (.int .i64 er):=by rw[<-hW,<-hG];simp[go_sem]
 have g1:W.cell? ⟨G,1,none⟩=some (.int .i64 (at_:Int)):=by rw[<-hW,<-hG];simp[go_sem]
 have n0:¬C=G:=by have:=hc.lt;omega
 have n1:¬C+1=G:=by have:=he.lt;omega
 have n2:¬C+2=G:=by have:=ha.lt;omega
 have hbd:=hb;obtain⟨V,hV⟩:=gA W
 rw[hV]at hbd;have rc:=hc.of_block (hbd.block _ hc.lt);have re:=he.of_block (hbd.block _ he.lt);have ra:=ha.of_block (hbd.block _ ha.lt);have v0:V.cell? ⟨G,0,none⟩=some (.int .i64 er):=by rw[<-hV];exact g0
 have v1:V.cell? ⟨G,1,none⟩=some (.int .i64 (at_:Int)):=by rw[<-hV];exact g1
 have c0:V.cell? ⟨C,0,none⟩=some (f 0):=rc.cell dE;have c1:V.cell? ⟨C,1,none⟩=some (f 1):=rc.cell dE;have c2:V.cell? ⟨C,2,none⟩=some (f 2):=rc.cell dE;have c3:V.cell? ⟨C,3,none⟩=some (f 3):=rc.cell dE;have f0:=rc.frozen 0;have f1:=rc.frozen 1;have f2:=rc.frozen 2;have f3:=rc.frozen 3;have d0:V.cell? ⟨C+1,0,none⟩=some (g 0):=re.cell dE;have d1:=re.frozen 0;have a0:V.cell? ⟨C+2,0,none⟩=some (k 0):=ra.cell dE;have a1:=ra.frozen 0;have HFIN:=A6 (GX C er at_ (hbd.mono (Nat.le_of_lt hc.lt)) rc re ra);have HU:=A6 hu;subst hV;clear hc he ha hb hbd rc re ra hu;have hta:∀ (x:Value) (w:World),(Instr.typeAssert (.iface 72 x) 20 72 true).run prog w=.ok (.tuple #[x,.bool true]) w:=fun x w=>GH x w;refine wpS_of_wp ?_;generalize hT:(#[Value.pointer (some {block:=C,off:=0}),Value.pointer (some {block:=C+1,off:=0}),Value.pointer (some {block:=C+2,off:=0})]++_:Array Value)=TT;simp only[Array.replicate,List.replicate,List.setIfInBounds_toArray,List.set_cons_zero,List.set_cons_succ,List.append_toArray,List.cons_append,List.nil_append]at hT;subst hT;go_upto_region 5 with fail;try rw[hW]
 try rw[hG]
 clear hW hG hta;refine rG (fun v=>v.cell? ⟨G,0,none⟩=some (.int .i64 er)/\v.cell? ⟨G,1,none⟩=some (.int .i64 (at_:Int))) fun hJ=>?_;refine wpAnyH_take (i:=0) (v:=?_) A7 kR kR kR A8 (Or.inl ⟨rF,?_⟩) A9 ?_
 rotate_left 1
 ·(intro wS hSw;(try dsimp only at hSw);go_simp;try(with_reducible rfl))
 try simp only[Act.put,List.setIfInBounds_toArray,List.set_cons_zero,List.set_cons_succ]
 refine wpAnyH_take (i:=1) (v:=?_) A7 kR kR kR A8 (Or.inl ⟨rF,?_⟩) A9 ?_
 rotate_left 1
 ·(intro wS hSw;(try dsimp only at hSw);go_simp;try(with_reducible rfl))
 try simp only[Act.put,List.setIfInBounds_toArray,List.set_cons_zero,List.set_cons_succ]
 refine wpAnyH_take (i:=2) (v:=?_) A7 kR kR kR A8 (Or.inl ⟨rF,?_⟩) A9 ?_
 rotate_left 1
 ·(intro wS hSw;(try dsimp only at hSw);go_simp;try(with_reducible rfl))
 try simp only[Act.put,List.setIfInBounds_toArray,List.set_cons_zero,List.set_cons_succ]
 refine wpAnyH_take (i:=3) (v:=?_) A7 kR kR kR A8 (Or.inl ⟨rF,?_⟩) A9 ?_
 rotate_left 1
 ·(intro wS hSw;(try dsimp only at hSw);go_simp;try(with_reducible rfl))
 try simp only[Act.put,List.setIfInBounds_toArray,List.set_cons_zero,List.set_cons_succ]
 refine wpAnyH_take (i:=4) (v:=?_) A7 kR kR kR A8 (Or.inl ⟨rF,?_⟩) A9 ?_
 rotate_left 1
 ·(intro wS hSw;(try dsimp only at hSw);go_simp;try(with_reducible rfl))
 try simp only[Act.put,List.setIfInBounds_toArray,List.set_cons_zero,List.set_cons_succ]
 clear hJ;refine AR 5 fun K hK=>?_;go_simp;refine AX hK fun hJ=>?_;clear hK K;clear hJ;refine AR 6 fun K hK=>?_;go_simp;refine AX hK fun hJ=>?_;clear hK K;clear hJ;refine AR 7 fun K hK=>?_;go_simp;refine AX hK fun hJ=>?_;clear hK K;refine wpAnyH_done kR ?_ _;exact⟨rfl,_,rfl,.tuple #[],by simp[results,results25],rfl,rfl,HFIN.out⟩
theorem LD{B:Nat}{w:World}{u0 u1 u2 u3:Value}{c:Cd}(h:Fb B w u0 u1 u2 u3 c):CN w u0 u1 u2 u3 c:=⟨Cw Ek h.sign,Cw Fa h.regs,Cw F9 h.slots,Cw F4 h.list⟩
theorem Jn{c:Cd}(h:BI c):Bd c:=by
 obtain⟨⟨a1,a2⟩,⟨b1,b2⟩,⟨c1,c2⟩,d1,d2⟩:=h;refine⟨oM,fun p hp=>?_,oM,oM,oM,fun s hs=>?_,fun i hi=>?_⟩
 .have:=(a2 p hp).2.2.1;omega
 .have:=c2 s hs;exact⟨this.2.2.2.1,this.2.2.2.2.1⟩
 .have:=d2 i hi;obtain⟨-,-,-,-,-,-,-,z1,z2,-⟩:=this;exact⟨z1,z2⟩
theorem OK{s:ByteArray}{c:Cd}{l:List Nat}{p:Nat}(h:ID (Aa s) 0=.ok (c,l,p)):BI c:=by
 obtain⟨u,l',p',h1,h2⟩:=Fw h;refine(JS.bw l' p' c l p (fun b hb=>?_) h2).2.2;unfold Fy at h1;split at h1
 .cases h1
 .split at h1
  .cases h1
  .simp only[Except.ok.injEq,Prod.mk.injEq]at h1;rw[<-h1.2.1]at hb;exact E9 s b (List.mem_of_mem_drop hb)
def Lx(w:World)(q:Except (Int×Nat) Cd)(e:Ending)(w':World):Prop:=
 match q with
 | .error (er,at_)=>e=.returned (.tuple #[.agg #[.slice none 0 0,.slice none 0 0,.slice none 0 0,.slice none 0 0],.int .i64 er,.int .i64 (at_:Int)])/\Below w.heap.size w w'
 | .ok c=>∃p0 q0 p1 q1 p2 q2 p3 q3,e=.returned (.tuple #[.agg #[.slice p0 c.sign.length q0,.slice p1 c.regs.length q1,.slice p2 c.slots.length q2,.slice p3 c.list.length q3],.int .i64 0,.int .i64 0])/\Fb w.heap.size w' (.slice p0 c.sign.length q0) (.slice p1 c.regs.length q1) (.slice p2 c.slots.length q2) (.slice p3 c.list.length q3) c/\Below w.heap.size w w'
theorem H0(C:Nat){w w4:World}(hC:w.heap.size=C)(q:Except (Int×Nat) Cd)(er:Int)(at_:Nat)(hq:q=.error (er,at_)){f g k:Nat->Value}(hb:Below C w w4)(rc:w4.rowIs C 27 4 f)(re:w4.rowIs (C+1) 29 1 g)(ra:w4.rowIs (C+2) 3 1 k)(tmps:Array Value)(t2:tmps[2]? =some (.pointer (some ⟨C,0,none⟩)))(t3:tmps[3]? =some (.pointer (some ⟨C+1,0,none⟩)))(t4:tmps[4]? =some (.pointer (some ⟨C+2,0,none⟩))):
 Leaves prog Tryz.f12 tmps (Lx w q) [{target:=.fn (.func 25) #[.pointer (some ⟨C,0,none⟩),.pointer (some ⟨C+1,0,none⟩),.pointer (some ⟨C+2,0,none⟩)],args:=#[]}] (.panicking [{v:=.iface 72 (.agg #[.int .i64 er,.int .i64 (at_:Int)]),recovered:=false}]) w4:=by
 refine leaves_cons (f:=25) (args:=#[.pointer (some ⟨C,0,none⟩),.pointer (some ⟨C+1,0,none⟩),.pointer (some ⟨C+2,0,none⟩)]) sM sG ?_;refine(GY C er at_ [] w4 f g k rc re ra).mono ?_;rintro e u' w' ⟨rfl,rfl,h1,h2,h3,h4⟩;have c0:w'.cell? ⟨C,0,none⟩=some (.slice none 0 0):=h2.cell dE;have c1:w'.cell? ⟨C,1,none⟩=some (.slice none 0 0):=h2.cell dE;have c2:w'.cell? ⟨C,2,none⟩=some (.slice none 0 0):=h2.cell dE;have c3:w'.cell? ⟨C,3,none⟩=some (.slice none 0 0):=h2.cell dE;have d0:w'.cell? ⟨C+1,0,none⟩=some (.int .i64 er):=h3.cell dE;have a0:w'.cell? ⟨C+2,0,none⟩=some (.int .i64 (at_:Int)):=h4.cell dE;simp only[settle,List.dropWhile];refine⟨_,(by simp[results,results12,go_sem, *];try rfl),?_⟩;rw[hq];exact⟨rfl,by rw[hC];exact hb.trans h1⟩
theorem Ns(C:Nat)(v0 v1 v2 v3 ve va:Value){w V:World}{f g k:Nat->Value}(hb:Below C w V)(rc:V.rowIs C 27 4 f)(re:V.rowIs (C+1) 29 1 g)(ra:V.rowIs (C+2) 3 1 k):
 Below C w ((((((V.setCell ⟨C,0,none⟩ v0).setCell ⟨C,1,none⟩ v1).setCell ⟨C,2,none⟩ v2).setCell ⟨C,3,none⟩ v3).setCell ⟨C+1,0,none⟩ ve).setCell ⟨C+2,0,none⟩ va)/\((((((V.setCell ⟨C,0,none⟩ v0).setCell ⟨C,1,none⟩ v1).setCell ⟨C,2,none⟩ v2).setCell ⟨C,3,none⟩ v3).setCell ⟨C+1,0,none⟩ ve).setCell ⟨C+2,0,none⟩ va).rowIs C 27 4 (f4 v0 v1 v2 v3)/\((((((V.setCell ⟨C,0,none⟩ v0).setCell ⟨C,1,none⟩ v1).setCell ⟨C,2,none⟩ v2).setCell ⟨C,3,none⟩ v3).setCell ⟨C+1,0,none⟩ ve).setCell ⟨C+2,0,none⟩ va).rowIs (C+1) 29 1 (fun _=>ve)/\((((((V.setCell ⟨C,0,none⟩ v0).setCell ⟨C,1,none⟩ v1).setCell ⟨C,2,none⟩ v2).setCell ⟨C,3,none⟩ v3).setCell ⟨C+1,0,none⟩ ve).setCell ⟨C+2,0,none⟩ va).rowIs (C+2) 3 1 (fun _=>va)/\(∀b,C+3<=b->((((((V.setCell ⟨C,0,none⟩ v0).setCell ⟨C,1,none⟩ v1).setCell ⟨C,2,none⟩ v2).setCell ⟨C,3,none⟩ v3).setCell ⟨C+1,0,none⟩ ve).setCell ⟨C+2,0,none⟩ va).heap[b]? =V.heap[b]?):=by
 obtain⟨V1,h0⟩:∃V',V.setCell ⟨C,0,none⟩ v0=V':=⟨_,rfl⟩
 have b0:Below C w V1:=by rw[<-h0];exact hb.setCell Ow _
 have k0:∀b,C+3<=b->V1.heap[b]? =V.heap[b]? :=fun b h=>by rw[<-h0,gE Qq]
 have rc0:=rc.set 0 v0;rw[h0]at rc0;have re0:=re.of_block (w':=V1) (by rw[<-h0];exact gE Ov);have ra0:=ra.of_block (w':=V1) (by rw[<-h0];exact gE Ou);rw[h0];obtain⟨V2,h1⟩:∃V',V1.setCell ⟨C,1,none⟩ v1=V':=⟨_,rfl⟩
 have b1:Below C w V2:=by rw[<-h1];exact b0.setCell Ow _
 have k1:∀b,C+3<=b->V2.heap[b]? =V.heap[b]? :=fun b h=>by rw[<-h1,gE Qq];exact k0 b h
 have rc1:=rc0.set 1 v1;rw[h1]at rc1;have re1:=re0.of_block (w':=V2) (by rw[<-h1];exact gE Ov);have ra1:=ra0.of_block (w':=V2) (by rw[<-h1];exact gE Ou);rw[h1];obtain⟨V3,h2⟩:∃V',V2.setCell ⟨C,2,none⟩ v2=V':=⟨_,rfl⟩
 have b2:Below C w V3:=by rw[<-h2];exact b1.setCell Ow _
 have k2:∀b,C+3<=b->V3.heap[b]? =V.heap[b]? :=fun b h=>by rw[<-h2,gE Qq];exact k1 b h
 have rc2:=rc1.set 2 v2;rw[h2]at rc2;have re2:=re1.of_block (w':=V3) (by rw[<-h2];exact gE Ov);have ra2:=ra1.of_block (w':=V3) (by rw[<-h2];exact gE Ou);rw[h2];obtain⟨V4,h3⟩:∃V',V3.setCell ⟨C,3,none⟩ v3=V':=⟨_,rfl⟩
 have b3:Below C w V4:=by rw[<-h3];exact b2.setCell Ow _
 have k3:∀b,C+3<=b->V4.heap[b]? =V.heap[b]? :=fun b h=>by rw[<-h3,gE Qq];exact k2 b h
 have rc3:=rc2.set 3 v3;rw[h3]at rc3;have re3:=re2.of_block (w':=V4) (by rw[<-h3];exact gE Ov);have ra3:=ra2.of_block (w':=V4) (by rw[<-h3];exact gE Ou);rw[h3];obtain⟨V5,h4⟩:∃V',V4.setCell ⟨C+1,0,none⟩ ve=V':=⟨_,rfl⟩
 have b4:Below C w V5:=by rw[<-h4];exact b3.setCell (by show C<=C+1;omega) _
 have k4:∀b,C+3<=b->V5.heap[b]? =V.heap[b]? :=fun b h=>by rw[<-h4,gE (by show b≠C+1;omega)];exact k3 b h
 have rc4:=rc3.of_block (w':=V5) RV;have re4:=re3.set 0 ve;rw[h4]at re4;have ra4:=ra3.of_block (w':=V5) RT;rw[h4];obtain⟨V6,h5⟩:∃V',V5.setCell ⟨C+2,0,none⟩ va=V':=⟨_,rfl⟩
 have b5:Below C w V6:=by rw[<-h5];exact b4.setCell (by show C<=C+2;omega) _
 have k5:∀b,C+3<=b->V6.heap[b]? =V.heap[b]? :=fun b h=>by rw[<-h5,gE (by show b≠C+2;omega)];exact k4 b h
 have rc5:=rc4.of_block (w':=V6) RU;have re5:=re4.of_block (w':=V6) RR;have ra5:=ra4.set 0 va;rw[h5]at ra5;rw[h5];refine⟨b5,rc5.congr fun j hj=>?_,re5.congr fun j hj=>?_,ra5.congr fun j hj=>?_,k5⟩
 .exact OI
 .have:j=0:=oM;subst this;rfl
 .have:j=0:=oM;subst this;rfl
theorem NZ{C:Nat}{w u:World}{v0 v1 v2 v3:Value}{c:Cd}(h:Fb (C+4) w v0 v1 v2 v3 c)(k:∀b,C+3<=b->u.heap[b]? =w.heap[b]?):Fb C u v0 v1 v2 v3 c:=by
 have kp:∀ {t:TypeId} {k n:Nat} {v:Value} {xs:List Value},w.ownsRow (C+4) t k v n xs->u.ownsRow C t k v n xs:=fun h=>CC (As h fun b hb=>k b QO) oM;exact⟨kp h.sign,kp h.regs,kp h.slots,kp h.list⟩
theorem J6(C:Nat){w4:World}(R:Ending->World->Prop){p0 p1 p2 p3:Option Addr}{n0 n1 n2 n3 q0 q1 q2 q3:Nat}{er at_:Int}(rc:w4.rowIs C 27 4 (f4 (.slice p0 n0 q0) (.slice p1 n1 q1) (.slice p2 n2 q2) (.slice p3 n3 q3)))(re:w4.rowIs (C+1) 29 1 (fun _=>.int .i64 er))(ra:w4.rowIs (C+2) 3 1 (fun _=>.int .i64 at_))(hR:R (.returned (.tuple #[.agg #[.slice p0 n0 q0,.slice p1 n1 q1,.slice p2 n2 q2,.slice p3 n3 q3],.int .i64 er,.int .i64 at_])) w4)(tmps:Array Value)(t2:tmps[2]? =some (.pointer (some ⟨C,0,none⟩)))(t3:tmps[3]? =some (.pointer (some ⟨C+1,0,none⟩)))(t4:tmps[4]? =some (.pointer (some ⟨C+2,0,none⟩))):
 Leaves prog Tryz.f12 tmps R [{target:=.fn (.func 25) #[.pointer (some ⟨C,0,none⟩),.pointer (some ⟨C+1,0,none⟩),.pointer (some ⟨C+2,0,none⟩)],args:=#[]}] .returning w4:=by
 refine leaves_cons (f:=25) (args:=#[.pointer (some ⟨C,0,none⟩),.pointer (some ⟨C+1,0,none⟩),.pointer (some ⟨C+2,0,none⟩)]) sM sG ?_;refine(Ib ⟨C,0,none⟩ ⟨C+1,0,none⟩ ⟨C+2,0,none⟩ w4).mono ?_;rintro e u' w' ⟨rfl,rfl,rfl⟩;have c0:w'.cell? ⟨C,0,none⟩=some (.slice p0 n0 q0):=rc.cell (i:=0) dE;have c1:w'.cell? ⟨C,1,none⟩=some (.slice p1 n1 q1):=rc.cell (i:=1) dE;have c2:w'.cell? ⟨C,2,none⟩=some (.slice p2 n2 q2):=rc.cell (i:=2) dE;have c3:w'.cell? ⟨C,3,none⟩=some (.slice p3 n3 q3):=rc.cell (i:=3) dE;have d0:w'.cell? ⟨C+1,0,none⟩=some (.int .i64 er):=re.cell dE;have a0:w'.cell? ⟨C+2,0,none⟩=some (.int .i64 at_):=ra.cell dE;simp only[settle];exact⟨_,(by simp[results,results12,go_sem,c0,c1,c2,c3,d0,a0,t2,t3,t4];try rfl),hR⟩
theorem Fk(s:ByteArray)(hs:s.size<=140737488355328)(w:World):
 Calls prog 12 #[.string s] w (Lx w (Gp (Aa s))):=by
 have hmf:∀ (fn:Fn) (first cap:Array Value) (w:World),(Instr.makeFunc fn first cap).run prog w=.ok (.func fn first cap) w:=fun _ _ _ _=>rfl;obtain⟨C,hC⟩:=gA (w.heap.size)
 obtain⟨W0,hW0⟩:∃W,((w.alloc (.cells #[.slice none 0 0,.slice none 0 0,.slice none 0 0,.slice none 0 0] 27)).alloc (.cells #[.int .i64 0] 29)).alloc (.cells #[.int .i64 0] 3)=W:=⟨_,rfl⟩
 obtain⟨W1,hW1⟩:∃W,W0.alloc (.cells #[.string s,.int .i64 0] 75)=W:=⟨_,rfl⟩
 have s0:W0.heap.size=C+3:=by rw[<-hW0,<-hC];simp
 have bW0:Below C w W0:=by
  rw[<-hC,<-hW0];exact bel (bel (A5 _ _) (A5 _ _)) (A5 _ _)
 have bW1:Below W0.heap.size W0 W1:=by rw[<-hW1];exact A5 _ _
 have r1:(w.alloc (.cells #[.slice none 0 0,.slice none 0 0,.slice none 0 0,.slice none 0 0] 27)).rowIs C 27 4 (fun _=>.slice none 0 0):=by
  rw[<-hC];exact Rr
 have one:∀ (u:World) (v:Value) (t:TypeId),(u.alloc (.cells #[v] t)).rowIs u.heap.size t 1 (fun _=>v):=fun u v t=>World.rowIs_alloc u #[v] t _ (fun i hi=>by
  have:i=0:=by have:i<1:=hi;omega
  subst this
  rfl)
 have rc0:W0.rowIs C 27 4 (fun _=>.slice none 0 0):=by rw[<-hW0];exact(r1.alloc _).alloc _
 have re0:W0.rowIs (C+1) 29 1 (fun _=>.int .i64 0):=by
  rw[<-hW0];have h9:=one (w.alloc (.cells #[.slice none 0 0,.slice none 0 0,.slice none 0 0,.slice none 0 0] 27)) (.int .i64 0) 29;rw[show(w.alloc (.cells #[.slice none 0 0,.slice none 0 0,.slice none 0 0,.slice none 0 0] 27)).heap.size=C+1 by rw[<-hC];simp]at h9;exact h9.alloc _
 have ra0:W0.rowIs (C+2) 3 1 (fun _=>.int .i64 0):=by
  rw[<-hW0];have h9:=one ((w.alloc (.cells #[.slice none 0 0,.slice none 0 0,.slice none 0 0,.slice none 0 0] 27)).alloc (.cells #[.int .i64 0] 29)) (.int .i64 0) 3;rw[show((w.alloc (.cells #[.slice none 0 0,.slice none 0 0,.slice none 0 0,.slice none 0 0] 27)).alloc (.cells #[.int .i64 0] 29)).heap.size=C+2 by rw[<-hC];simp]at h9;exact h9
 have rr:W1.rowIs (C+3) 75 2 (fun k=>if k=0 then .string s else .int .i64 ((0:Nat):Int)):=by
  rw[<-hW1,<-s0];exact World.rowIs_alloc W0 #[.string s,.int .i64 0] 75 _ (fun i hi=>by
   rcases(show i=0\/i=1 by have:i<2:=hi;omega)with rfl|rfl<;>rfl)
 have rc1:=rc0.of_block (bW1.block _ rc0.lt);have re1:=re0.of_block (bW1.block _ re0.lt);have ra1:=ra0.of_block (bW1.block _ ra0.lt);have b1:Below C w W1:=bW0.trans (bW1.mono oM);have hm1:Bq (C+3) (C+3) s 0 W1:=⟨rr,gF _⟩
 have KC:=KG (C+3) (C+3) s W1 hm1 hs (by have:=rr.lt;omega);obtain⟨R,hR⟩:=gA (Gp (Aa s))
 rw[hR];rw[Nw]at hR;have HC:=A6 hC;have HB1:=A6 b1;have HRC:=A6 rc1;have HRE:=A6 re1;have HRA:=A6 ra1;have HS0:=A6 s0;have HKEEP:Hid (∀u,Below (C+3) W1 u->Below C w u/\u.rowIs (C+1) 29 1 (fun _=>.int .i64 0)/\u.rowIs (C+2) 3 1 (fun _=>.int .i64 0)/\u.rowIs C 27 4 (fun _=>.slice none 0 0)):=fun u hu=>⟨b1.trans (hu.mono oM),re1.of_block (hu.block _ oM),ra1.of_block (hu.block _ oM),rc1.of_block (hu.block _ oM)⟩
 have HW1:=A6 hW1;clear one r1 rc0 re0 ra0 rr bW0 bW1 b1 rc1 re1 ra1 hm1 hW1;cases hq:ID (Aa s) 0 with
 |error er=>
  obtain⟨er,at_⟩:=er;rw[Ah hq]at hR;simp only at hR;rw[hq]at KC;have KC':=A6 KC;unfold Nk AY at KC';simp only at KC';have HRR:=A6 hR.symm;clear KC hq hR
  go_enter_defers func12,ntmps12
  go_upto_region 2 with fail;try rw[hW0]
  try rw[hC]
  go_upto_region 3 with fail;rw[HW1.out];try rw[s0]
  rw[show C+1+1=C+2 from rfl];clear hW0 hC s0;go_wp2_with(go_at_call 26;(with_reducible refine KC'.out.mono ?_);rintro e9 w4 ⟨rfl,hb4,ho4⟩;have HB4:=A6 hb4;clear hb4 ho4);obtain⟨k1,k2,k3,k4⟩:=HKEEP.out w4 HB4.out;exact H0 C HC.out R er at_ HRR.out k1 k4 k2 k3 _ rfl rfl rfl
 |ok r=>
  obtain⟨c,l,A⟩:=r;have HOK:=A6 (OK hq);rw[Ap hq]at hR;rw[hq]at KC;have KC':=A6 KC;unfold Nk at KC';simp only at KC';have HRR:=A6 hR;have HSW:Hid (C+4<=W1.heap.size):=by
   show _<=_;rw[<-HW1.out];simp[s0]
  clear KC hq hR
  go_enter_defers func12,ntmps12
  go_upto_region 2 with fail;try rw[hW0]
  try rw[hC]
  go_upto_region 3 with fail;rw[HW1.out];try rw[s0]
  rw[show C+1+1=C+2 from rfl];clear hW0 hC s0;go_upto_region 4 with(go_at_call 26;(with_reducible refine KC'.out.mono ?_);rintro e9 w4 ⟨p0,q0,p1,q1,p2,q2,p3,q3,rfl,hw4,hb4,ho4,hm4,hl4,hd4⟩;obtain⟨k1,k2,k3,k4⟩:=HKEEP.out w4 hb4;have HK:=A6 (And.intro k1 (And.intro k2 (And.intro k3 k4)));have HW4:=A6 hw4;have HM4:=A6 hm4;have HL4:=A6 hl4;have HD4:=A6 hd4;have HS4:=A6 ho4.1;have y0:w4.cell? ⟨C,0,none⟩=some (.slice none 0 0):=k4.cell dE;have y1:w4.cell? ⟨C,1,none⟩=some (.slice none 0 0):=k4.cell dE;have y2:w4.cell? ⟨C,2,none⟩=some (.slice none 0 0):=k4.cell dE;have y3:w4.cell? ⟨C,3,none⟩=some (.slice none 0 0):=k4.cell dE;have f0:=k4.frozen 0;have f1:=k4.frozen 1;have f2:=k4.frozen 2;have f3:=k4.frozen 3;clear k1 k2 k3 k4 hw4 hb4 ho4 hm4 hl4 hd4)
  obtain⟨V2,hV2⟩:∃V,(((w4.setCell ⟨C,0,none⟩ (.slice p0 c.sign.length q0)).setCell ⟨C,1,none⟩ (.slice p1 c.regs.length q1)).setCell ⟨C,2,none⟩ (.slice p2 c.slots.length q2)).setCell ⟨C,3,none⟩ (.slice p3 c.list.length q3)=V:=⟨_,rfl⟩
  have hbl:∀b,b≠C->V2.heap[b]? =w4.heap[b]? :=fun b hb=>by
   rw[<-hV2,gE hb,gE hb,gE hb,gE hb]
  obtain⟨k1,k2,k3,k4⟩:=HK.out;have re2:=k2.of_block (hbl (C+1) oM);have ra2:=k3.of_block (hbl (C+2) oM);have rc2:V2.rowIs C 27 4 (f4 (.slice p0 c.sign.length q0) (.slice p1 c.regs.length q1) (.slice p2 c.slots.length q2) (.slice p3 c.list.length q3)):=by
   rw[<-hV2];exact((((k4.set 0 (.slice p0 c.sign.length q0)).set 1 (.slice p1 c.regs.length q1)).set 2 (.slice p2 c.slots.length q2)).set 3 (.slice p3 c.list.length q3)).congr fun j hj=>by
    exact OI
  have hm2:Bq (C+3) (C+3) s A V2:=⟨HM4.b.of_block (hbl (C+3) oM),gF _⟩
  have bb2:Below C w V2:=by rw[<-hV2];exact(((k1.setCell (gF _) _).setCell (gF _) _).setCell (gF _) _).setCell (gF _) _
  have hS:=HSW.out;have ow2:Fb (C+4) V2 (.slice p0 c.sign.length q0) (.slice p1 c.regs.length q1) (.slice p2 c.slots.length q2) (.slice p3 c.list.length q3) c:=by
   have hw:=HW4.out;have kp:∀ {t:TypeId} {k n:Nat} {u:Value} {xs:List Value},w4.ownsRow W1.heap.size t k u n xs->V2.ownsRow (C+4) t k u n xs:=fun h=>CC (As h fun b hb=>hbl b QO) hS;exact⟨kp hw.sign,kp hw.regs,kp hw.slots,kp hw.list⟩
  have KE:=Mc (C+3) (C+3) s A V2 hm2 HL4.out hs (by have:=hm2.b.lt;omega);have hR:=HRR.out;rw[HD4.out]at hR;rw[hV2];have HR2:=A6 (And.intro bb2 (And.intro rc2 (And.intro re2 (And.intro ra2 ow2))));clear y0 y1 y2 y3 f0 f1 f2 f3 hV2 hbl k1 k2 k3 k4 re2 ra2 rc2 hm2 bb2 ow2 HW4 HM4 HL4 HD4 HS4 HK HRR KC' HKEEP HRC HRE HRA HB1 hS;cases hq2:Kv (Aa s) ((Aa s).drop A) A with
  |error er=>
   obtain⟨er,at_⟩:=er;rw[Ah hq2]at hR;simp only at hR;rw[hq2]at KE;have KE':=A6 KE;unfold AV AY at KE';simp only at KE';have HRR:=A6 hR.symm;clear KE hq2 hR;go_wp2_with(go_at_call 27;(with_reducible refine KE'.out.mono ?_);rintro e9 w5 ⟨rfl,hb5,ho5⟩;have HB5:=A6 hb5;clear hb5 ho5);obtain⟨k1,k2,k3,k4,-⟩:=HR2.out;have h5:=HB5.out;exact H0 C HC.out R er at_ HRR.out (k1.trans (h5.mono oM)) (k2.of_block (h5.block _ oM)) (k3.of_block (h5.block _ oM)) (k4.of_block (h5.block _ oM)) _ rfl rfl rfl
  |ok r2=>
   obtain⟨u9,l2,A2⟩:=r2;rw[Ap hq2]at hR;unfold Ay at hR;simp only at hR;rw[hq2]at KE;have KE':=A6 KE;unfold AV at KE';simp only at KE';have HRR:=A6 hR;clear KE hq2 hR;go_upto_region 5 with(go_at_call 27;(with_reducible refine KE'.out.mono ?_);rintro e9 w5 ⟨rfl,hb5,ho5,hm5,hl5,hd5⟩;have HB5:=A6 hb5;have HO5:=A6 ho5;clear hb5 ho5 hm5 hl5 hd5)
   obtain⟨k1,k2,k3,k4,k5⟩:=HR2.out;have h5:=HB5.out;have b5:=k1.trans (h5.mono (show C<=C+3 by omega));have rc5:=k2.of_block (h5.block _ (show C<C+3 by omega));have re5:=k3.of_block (h5.block _ (show C+1<C+3 by omega));have ra5:=k4.of_block (h5.block _ (show C+2<C+3 by omega));have hr4:C+3<C+4:=oM;have ow5:Fb (C+4) w5 (.slice p0 c.sign.length q0) (.slice p1 c.regs.length q1) (.slice p2 c.slots.length q2) (.slice p3 c.list.length q3) c:=⟨BZ k5.sign hr4 HO5.out,BZ k5.regs hr4 HO5.out,BZ k5.slots hr4 HO5.out,BZ k5.list hr4 HO5.out⟩
   have KH:=A6 (EA _ _ _ _ c (Jn HOK.out) w5 (LD ow5));have z0:w5.cell? ⟨C,0,none⟩=some (.slice p0 c.sign.length q0):=rc5.cell (i:=0) dE;have z1:w5.cell? ⟨C,1,none⟩=some (.slice p1 c.regs.length q1):=rc5.cell (i:=1) dE;have z2:w5.cell? ⟨C,2,none⟩=some (.slice p2 c.slots.length q2):=rc5.cell (i:=2) dE;have z3:w5.cell? ⟨C,3,none⟩=some (.slice p3 c.list.length q3):=rc5.cell (i:=3) dE;have HKP:Hid (∀u,Below w5.heap.size w5 u->Below C w u/\u.rowIs C 27 4 (f4 (.slice p0 c.sign.length q0) (.slice p1 c.regs.length q1) (.slice p2 c.slots.length q2) (.slice p3 c.list.length q3))/\u.rowIs (C+1) 29 1 (fun _=>.int .i64 0)/\u.rowIs (C+2) 3 1 (fun _=>.int .i64 0)/\Fb (C+4) u (.slice p0 c.sign.length q0) (.slice p1 c.regs.length q1) (.slice p2 c.slots.length q2) (.slice p3 c.list.length q3) c):=fun u hu=>by
    have hc5:=rc5.lt;have kp:∀ {t:TypeId} {k n:Nat} {v:Value} {xs:List Value},w5.ownsRow (C+4) t k v n xs->u.ownsRow (C+4) t k v n xs:=fun h=>As h fun b hb=>hu.block b (h.lt b hb).2;exact⟨b5.trans (hu.mono oM),rc5.of_block (hu.block _ rc5.lt),re5.of_block (hu.block _ re5.lt),ra5.of_block (hu.block _ ra5.lt),⟨kp ow5.sign,kp ow5.regs,kp ow5.slots,kp ow5.list⟩⟩
   obtain⟨e1,he1⟩:∃e,(Az c).1=e:=⟨_,rfl⟩
   obtain⟨e2,he2⟩:∃e,(Az c).2=e:=⟨_,rfl⟩
   rw[he1,he2]at KH;rw[he1]at HRR;clear k1 k2 k3 k4 k5 h5 b5 rc5 re5 ra5 ow5 he1 he2 HB5 HO5 KE' HR2;by_cases hc:e1=0
   .subst hc;have HRE:Hid (R=.ok c):=by show R=_;rw[<-HRR.out];simp
    clear HRR;go_upto_region 8 with(go_at_call 16;(with_reducible refine KH.out.mono ?_);rintro e9 w6 ⟨rfl,hb6⟩;have HB6:=A6 hb6;clear hb6)
    obtain⟨j1,j2,j3,j4,j5⟩:=HKP.out w6 HB6.out;have y0:w6.cell? ⟨C,0,none⟩=some (.slice p0 c.sign.length q0):=j2.cell (i:=0) dE;have y1:w6.cell? ⟨C,1,none⟩=some (.slice p1 c.regs.length q1):=j2.cell (i:=1) dE;have y2:w6.cell? ⟨C,2,none⟩=some (.slice p2 c.slots.length q2):=j2.cell (i:=2) dE;have y3:w6.cell? ⟨C,3,none⟩=some (.slice p3 c.list.length q3):=j2.cell (i:=3) dE;have f0:=j2.frozen 0;have f1:=j2.frozen 1;have f2:=j2.frozen 2;have f3:=j2.frozen 3;have d0:w6.cell? ⟨C+1,0,none⟩=some (.int .i64 0):=j3.cell dE;have d1:=j3.frozen 0;have a0:w6.cell? ⟨C+2,0,none⟩=some (.int .i64 0):=j4.cell dE;have a1:=j4.frozen 0;have HCC:=A6 (Ns C (.slice p0 c.sign.length q0) (.slice p1 c.regs.length q1) (.slice p2 c.slots.length q2) (.slice p3 c.list.length q3) (.int .i64 0) (.int .i64 0) j1 j2 j3 j4);have HJ5:=A6 j5;clear z0 z1 z2 z3 j1 j2 j3 j4 j5;go_wp2;obtain⟨m1,m2,m3,m4,m5⟩:=HCC.out;refine J6 C (Lx w R) m2 m3 m4 ?_ _ rfl rfl rfl;rw[HRE.out];have hw:=HJ5.out;refine⟨p0,q0,p1,q1,p2,q2,p3,q3,rfl,?_,by rw[HC.out];exact m1⟩;rw[HC.out];clear m1 m2 m3 m4;exact NZ hw m5
   .have q1':(e1==0)=false:=by simpa using hc
    have q2':(e1 != 0)=true:=by simpa using hc
    have HRE:Hid (R=.error (e1,0)):=by show R=_;rw[<-HRR.out,if_pos hc]
    clear HRR;go_upto_region 7 with(go_at_call 16;(with_reducible refine KH.out.mono ?_);rintro e9 w6 ⟨rfl,hb6⟩;have HB6:=A6 hb6;clear hb6)
    obtain⟨j1,j2,j3,j4,j5⟩:=HKP.out w6 HB6.out;have y0:w6.cell? ⟨C,0,none⟩=some (.slice p0 c.sign.length q0):=j2.cell (i:=0) dE;have y1:w6.cell? ⟨C,1,none⟩=some (.slice p1 c.regs.length q1):=j2.cell (i:=1) dE;have y2:w6.cell? ⟨C,2,none⟩=some (.slice p2 c.slots.length q2):=j2.cell (i:=2) dE;have y3:w6.cell? ⟨C,3,none⟩=some (.slice p3 c.list.length q3):=j2.cell (i:=3) dE;have f0:=j2.frozen 0;have f1:=j2.frozen 1;have f2:=j2.frozen 2;have f3:=j2.frozen 3;have d0:w6.cell? ⟨C+1,0,none⟩=some (.int .i64 0):=j3.cell dE;have d1:=j3.frozen 0;have a0:w6.cell? ⟨C+2,0,none⟩=some (.int .i64 0):=j4.cell dE;have a1:=j4.frozen 0;have HCC:=A6 (Ea C e1 0 j1 j2 j3 j4);clear z0 z1 z2 z3;go_wp2;obtain⟨m1,m2,m3,m4⟩:=HCC.out;have m2':=m2.congr (g:=f4 (.slice none 0 0) (.slice none 0 0) (.slice none 0 0) (.slice none 0 0)) (fun j hj=>by
     rcases(show j=0\/j=1\/j=2\/j=3 by omega)with rfl|rfl|rfl|rfl<;>rfl)
    refine J6 C (Lx w R) m2' m3 m4 ?_ _ rfl rfl rfl;rw[HRE.out];exact⟨rfl,by rw[HC.out];exact m1⟩
theorem IX(v0 v1 v2 v3:Value)(c:Cd)(hz:Pt c)(w:World)(hv:CN w v0 v1 v2 v3 c):
 Calls prog 7 #[.agg #[v0,v1,v2,v3]] w fun e w'=>∃u0 u1 u2 u3,e=.returned (.agg #[u0,u1,u2,u3])/\CN w' u0 u1 u2 u3 c/\Fb w.heap.size w' u0 u1 u2 u3 c/\Below w.heap.size w w':=by
 have s0:=hz.s;have s1:=hz.r;have s2:=hz.l;have s3:=hz.i;have C0:=CW.start w v0 v1 v2 v3;obtain⟨W0,hW0⟩:∃W,((w.alloc (.cells #[v0,v1,v2,v3] 27)).alloc (.cells #[.slice none 0 0,.slice none 0 0,.slice none 0 0,.slice none 0 0] 27)).alloc (.cells #[.slice none 0 0,.slice none 0 0,.slice none 0 0,.slice none 0 0] 27)=W:=⟨_,rfl⟩
 have hE:W0.heap.size=w.heap.size+1+1+1:=by rw[<-hW0];simp
 rw[hW0]at C0;have U0:Up (w.heap.size+1+1+1) W0 W0:=⟨gF _,fun _ _ _=>rfl⟩
 obtain⟨z0,w1,r0,b0,o0⟩:=Np (hv.sign.below C0.bel) oM 22;obtain⟨p0,q0,rfl⟩:=At o0;have D0:=C0.app b0;have c00:=C0.c.at 0 rfl;have c01:W0.cell? ⟨w.heap.size+1+1,0,none⟩=some (.slice none 0 0):=C0.d.cell (i:=0) dE;have c02:w1.cell? ⟨w.heap.size+1+1,0,none⟩=some (.slice none 0 0):=D0.d.cell (i:=0) dE;have c03:=D0.d.frozen 0;rw[Nat.zero_add]at c00;have C1:=D0.put (y0:=(.slice p0 c.sign.length q0)) (y1:=(.slice none 0 0)) (y2:=(.slice none 0 0)) (y3:=(.slice none 0 0)) 0 (.slice p0 c.sign.length q0) Qi;obtain⟨V1,hV1⟩:∃V,w1.setCell ⟨w.heap.size+1+1,0,none⟩ (.slice p0 c.sign.length q0)=V:=⟨_,rfl⟩
 have U1:Up (w.heap.size+1+1+1) W0 V1:=by rw[<-hV1];exact(Up.of b0).trans (Up.set _ oM _ _)
 have T1:Up (w.heap.size+1+1+1) w1 V1:=by rw[<-hV1];exact Up.set _ oM _ _
 have HV0:Hid (w1.setCell ⟨w.heap.size+1+1,0,none⟩ (.slice p0 c.sign.length q0)=V1):=hV1;rw[hV1]at C1;have HR0:Hid ((Builtin.append_ #[22,22] 22 #[.slice none 0 0,v0]).run prog W0=.ok (.slice p0 c.sign.length q0) w1):=r0;have e0:w.heap.size+1+1+1<=W0.heap.size:=by have:=U0.1;omega
 obtain⟨z1,w2,r1,b1,o1⟩:=ON (hv.regs.below C1.bel) oM 23;obtain⟨p1,q1,rfl⟩:=At o1;have D1:=C1.app b1;have c10:=C1.c.at 1 rfl;have c11:V1.cell? ⟨w.heap.size+1+1,1,none⟩=some (.slice none 0 0):=C1.d.cell (i:=1) dE;have c12:w2.cell? ⟨w.heap.size+1+1,1,none⟩=some (.slice none 0 0):=D1.d.cell (i:=1) dE;have c13:=D1.d.frozen 1;rw[Nat.zero_add]at c10;have C2:=D1.put (y0:=(.slice p0 c.sign.length q0)) (y1:=(.slice p1 c.regs.length q1)) (y2:=(.slice none 0 0)) (y3:=(.slice none 0 0)) 1 (.slice p1 c.regs.length q1) Qi;obtain⟨V2,hV2⟩:∃V,w2.setCell ⟨w.heap.size+1+1,1,none⟩ (.slice p1 c.regs.length q1)=V:=⟨_,rfl⟩
 have U2:Up (w.heap.size+1+1+1) V1 V2:=by rw[<-hV2];exact(Up.of b1).trans (Up.set _ oM _ _)
 have T2:Up (w.heap.size+1+1+1) w2 V2:=by rw[<-hV2];exact Up.set _ oM _ _
 have HV1:Hid (w2.setCell ⟨w.heap.size+1+1,1,none⟩ (.slice p1 c.regs.length q1)=V2):=hV2;rw[hV2]at C2;have HR1:Hid ((Builtin.append_ #[23,23] 23 #[.slice none 0 0,v1]).run prog V1=.ok (.slice p1 c.regs.length q1) w2):=r1;have e1:w.heap.size+1+1+1<=V1.heap.size:=by have:=U1.1;omega
 obtain⟨z2,w3,r2,b2,o2⟩:=OM (hv.slots.below C2.bel) oM 24;obtain⟨p2,q2,rfl⟩:=At o2;have D2:=C2.app b2;have c20:=C2.c.at 2 rfl;have c21:V2.cell? ⟨w.heap.size+1+1,2,none⟩=some (.slice none 0 0):=C2.d.cell (i:=2) dE;have c22:w3.cell? ⟨w.heap.size+1+1,2,none⟩=some (.slice none 0 0):=D2.d.cell (i:=2) dE;have c23:=D2.d.frozen 2;rw[Nat.zero_add]at c20;have C3:=D2.put (y0:=(.slice p0 c.sign.length q0)) (y1:=(.slice p1 c.regs.length q1)) (y2:=(.slice p2 c.slots.length q2)) (y3:=(.slice none 0 0)) 2 (.slice p2 c.slots.length q2) Qi;obtain⟨V3,hV3⟩:∃V,w3.setCell ⟨w.heap.size+1+1,2,none⟩ (.slice p2 c.slots.length q2)=V:=⟨_,rfl⟩
 have U3:Up (w.heap.size+1+1+1) V2 V3:=by rw[<-hV3];exact(Up.of b2).trans (Up.set _ oM _ _)
 have T3:Up (w.heap.size+1+1+1) w3 V3:=by rw[<-hV3];exact Up.set _ oM _ _
 have HV2:Hid (w3.setCell ⟨w.heap.size+1+1,2,none⟩ (.slice p2 c.slots.length q2)=V3):=hV3;rw[hV3]at C3;have HR2:Hid ((Builtin.append_ #[24,24] 24 #[.slice none 0 0,v2]).run prog V2=.ok (.slice p2 c.slots.length q2) w3):=r2;have e2:w.heap.size+1+1+1<=V2.heap.size:=by have:=U2.1;omega
 obtain⟨z3,w4,r3,b3,o3⟩:=Nq (hv.list.below C3.bel) oM 25;obtain⟨p3,q3,rfl⟩:=At o3;have D3:=C3.app b3;have c30:=C3.c.at 3 rfl;have c31:V3.cell? ⟨w.heap.size+1+1,3,none⟩=some (.slice none 0 0):=C3.d.cell (i:=3) dE;have c32:w4.cell? ⟨w.heap.size+1+1,3,none⟩=some (.slice none 0 0):=D3.d.cell (i:=3) dE;have c33:=D3.d.frozen 3;rw[Nat.zero_add]at c30;have C4:=D3.put (y0:=(.slice p0 c.sign.length q0)) (y1:=(.slice p1 c.regs.length q1)) (y2:=(.slice p2 c.slots.length q2)) (y3:=(.slice p3 c.list.length q3)) 3 (.slice p3 c.list.length q3) Qi;obtain⟨V4,hV4⟩:∃V,w4.setCell ⟨w.heap.size+1+1,3,none⟩ (.slice p3 c.list.length q3)=V:=⟨_,rfl⟩
 have U4:Up (w.heap.size+1+1+1) V3 V4:=by rw[<-hV4];exact(Up.of b3).trans (Up.set _ oM _ _)
 have T4:Up (w.heap.size+1+1+1) w4 V4:=by rw[<-hV4];exact Up.set _ oM _ _
 have HV3:Hid (w4.setCell ⟨w.heap.size+1+1,3,none⟩ (.slice p3 c.list.length q3)=V4):=hV4;rw[hV4]at C4;have HR3:Hid ((Builtin.append_ #[25,25] 25 #[.slice none 0 0,v3]).run prog V3=.ok (.slice p3 c.list.length q3) w4):=r3;have e3:w.heap.size+1+1+1<=V3.heap.size:=by have:=U3.1;omega
 have U5:Up (w.heap.size+1+1+1) V4 ((((V4.setCell ⟨w.heap.size+1,0,none⟩ (.slice p0 c.sign.length q0)).setCell ⟨w.heap.size+1,1,none⟩ (.slice p1 c.regs.length q1)).setCell ⟨w.heap.size+1,2,none⟩ (.slice p2 c.slots.length q2)).setCell ⟨w.heap.size+1,3,none⟩ (.slice p3 c.list.length q3)):=(((Up.set _ oM _ _).trans (Up.set _ oM _ _)).trans (Up.set _ oM _ _)).trans (Up.set _ oM _ _);have HF:Hid (CN ((((V4.setCell ⟨w.heap.size+1,0,none⟩ (.slice p0 c.sign.length q0)).setCell ⟨w.heap.size+1,1,none⟩ (.slice p1 c.regs.length q1)).setCell ⟨w.heap.size+1,2,none⟩ (.slice p2 c.slots.length q2)).setCell ⟨w.heap.size+1,3,none⟩ (.slice p3 c.list.length q3)) (.slice p0 c.sign.length q0) (.slice p1 c.regs.length q1) (.slice p2 c.slots.length q2) (.slice p3 c.list.length q3) c/\Fb w.heap.size (((((V4.setCell ⟨w.heap.size+1,0,none⟩ (.slice p0 c.sign.length q0)).setCell ⟨w.heap.size+1,1,none⟩ (.slice p1 c.regs.length q1)).setCell ⟨w.heap.size+1,2,none⟩ (.slice p2 c.slots.length q2)).setCell ⟨w.heap.size+1,3,none⟩ (.slice p3 c.list.length q3))) (.slice p0 c.sign.length q0) (.slice p1 c.regs.length q1) (.slice p2 c.slots.length q2) (.slice p3 c.list.length q3) c/\Below w.heap.size w ((((V4.setCell ⟨w.heap.size+1,0,none⟩ (.slice p0 c.sign.length q0)).setCell ⟨w.heap.size+1,1,none⟩ (.slice p1 c.regs.length q1)).setCell ⟨w.heap.size+1,2,none⟩ (.slice p2 c.slots.length q2)).setCell ⟨w.heap.size+1,3,none⟩ (.slice p3 c.list.length q3))):=by
  have g0:=((((T1.trans U2).trans U3).trans U4).trans U5).own o0 e0;have g1:=(((T2.trans U3).trans U4).trans U5).own o1 e1;have g2:=((T3.trans U4).trans U5).own o2 e2;have g3:=(T4.trans U5).own o3 e3;refine⟨⟨Cw Ek g0,Cw Fa g1,Cw F9 g2,Cw F4 g3⟩,⟨C7 g0 oM,C7 g1 oM,C7 g2 oM,C7 g3 oM⟩,?_⟩;exact(((C4.bel.setCell Qm _).setCell Qm _).setCell Qm _).setCell Qm _
 have m0:V4.cell? ⟨w.heap.size+1+1,0,none⟩=some (.slice p0 c.sign.length q0):=C4.d.cell (i:=0) dE;have m1:V4.cell? ⟨w.heap.size+1+1,1,none⟩=some (.slice p1 c.regs.length q1):=C4.d.cell (i:=1) dE;have m2:V4.cell? ⟨w.heap.size+1+1,2,none⟩=some (.slice p2 c.slots.length q2):=C4.d.cell (i:=2) dE;have m3:V4.cell? ⟨w.heap.size+1+1,3,none⟩=some (.slice p3 c.list.length q3):=C4.d.cell (i:=3) dE;have k0:V4.cell? ⟨w.heap.size+1,0,none⟩=some (.slice none 0 0):=C4.r.cell (i:=0) dE;have k1:V4.cell? ⟨w.heap.size+1,1,none⟩=some (.slice none 0 0):=C4.r.cell (i:=1) dE;have k2:V4.cell? ⟨w.heap.size+1,2,none⟩=some (.slice none 0 0):=C4.r.cell (i:=2) dE;have k3:V4.cell? ⟨w.heap.size+1,3,none⟩=some (.slice none 0 0):=C4.r.cell (i:=3) dE;have y0:=C4.r.frozen 0;have y1:=C4.r.frozen 1;have y2:=C4.r.frozen 2;have y3:=C4.r.frozen 3;have HW:Hid (((w.alloc (.cells #[v0,v1,v2,v3] 27)).alloc (.cells #[.slice none 0 0,.slice none 0 0,.slice none 0 0,.slice none 0 0] 27)).alloc (.cells #[.slice none 0 0,.slice none 0 0,.slice none 0 0,.slice none 0 0] 27)=W0):=hW0;clear C0 C1 C2 C3 C4 D0 D1 D2 D3 U0 U1 U2 U3 U4 U5 T1 T2 T3 T4 o0 o1 o2 o3 b0 b1 b2 b3 r0 r1 r2 r3 hv hz hV1 hV2 hV3 hV4 hW0 e0 e1 e2 e3 hE;go_enter func7,ntmps7;go_upto_region 2 with fail;rw[HW.out];go_upto_region 3 with(at_builtin;refine AF rF _ _ _ rF _ _ _ rF rF HR0.out ?_)
 rw[HV0.out];go_upto_region 4 with(at_builtin;refine AF rF _ _ _ rF _ _ _ rF rF HR1.out ?_)
 rw[HV1.out];go_upto_region 5 with(at_builtin;refine AF rF _ _ _ rF _ _ _ rF rF HR2.out ?_)
 rw[HV2.out];go_upto_region 6 with(at_builtin;refine AF rF _ _ _ rF _ _ _ rF rF HR3.out ?_)
 rw[HV3.out];go_wp2;refine bodyPost_ret (by simp[results,results7,go_sem, *];try rfl) rfl ?_;exact⟨_,_,_,_,rfl,HF.1,HF.2.1,HF.2.2⟩
def Ls:Cd:=⟨[],[],[],[]⟩
theorem Ez:BI Ls:=⟨⟨dE,fun _ h=>by cases h⟩,⟨dE,fun _ h=>by cases h⟩,⟨dE,fun _ h=>by cases h⟩,dE,fun _ h=>by cases h⟩
theorem FY:(Az Ls).1=0:=by decide+kernel
theorem Ox(w:World):CN w (.slice none 0 0) (.slice none 0 0) (.slice none 0 0) (.slice none 0 0) Ls:=⟨⟨none,0,rfl,.inl rfl⟩,⟨none,0,rfl,.inl rfl⟩,⟨none,0,rfl,.inl rfl⟩,⟨none,0,rfl,.inl rfl⟩⟩
theorem Nz{c:Cd}:(BB c).length=(Bv c).length+12:=by
 unfold BB B2;simp only[List.length_append,AN];show 4+(Bv c).length+8=_;omega
theorem Oy:Bv Ls=[0,0,0,0]:=by
 show(Ak 0++[])++((Ak 0++[])++((Ak 0++[])++(Ak 0++[])))=_;rw[BP dE];rfl
theorem PE:∃T:ByteArray,AT (BB Ls)=T/\T.size=16/\T.extract 0 8=⟨#[108,116,104,49,0,0,0,0]⟩/\Gp (Aa T)=.ok Ls:=by
 refine⟨_,rfl,by rw[Af,Nz,Oy];rfl,?_,by rw[CG (LH Ez),OR Ez FY]⟩;apply GV;have h9:=CF (AT (BB Ls)) 0 8;rw[Nat.zero_add,List.drop_zero,CG (LH Ez)]at h9;rw[h9];unfold BB B2;rw[Oy,List.take_append_of_le_length dE];rfl
theorem QS:Gp (Aa ⟨#[108,116,104,49,0,0]⟩)=.error (242,6):=rF
theorem Pe:I1 (Aa ⟨#[49,50,51,52,53,54,55,56,57]⟩)=11051210869376104954:=by decide+kernel
theorem HI(w:World):
 Calls prog 11 #[] w fun e w'=>e=.returned (.bool true)/\Below w.heap.size w w':=by
 obtain⟨T,hT,hTs,hT8,hTd⟩:=PE;have KE:=ER (.slice none 0 0) (.slice none 0 0) (.slice none 0 0) (.slice none 0 0) Ls (Jn Ez) w (Ox w) FY;rw[hT]at KE;have KE':=A6 KE;have KD:=A6 (fun v=>Fk T oM v);rw[hTd]at KD;have KC:=A6 (fun v=>Fk ⟨#[108,116,104,49,0,0]⟩ dE v);rw[QS]at KC;unfold Lx at KD KC;simp only[Ls,List.length_nil]at KD KC;have KP:=A6 (fun v=>DU ⟨#[49,50,51,52,53,54,55,56,57]⟩ dE v);rw[Pe]at KP;have KQ:=A6 (fun(v:World) (a0 a1 a2 a3:Value) (ha:CN v a0 a1 a2 a3 Ls)=>FB a0 a1 a2 a3 (.slice none 0 0) (.slice none 0 0) (.slice none 0 0) (.slice none 0 0) Ls Ls (Jn Ez) (Jn Ez) v ha (Ox v));rw[H5]at KQ;have i1:(0:Int)<=8:=dE;clear KE hT hTd;go_enter func11,ntmps11;go_upto_region 2 with(go_at_call 8;(with_reducible refine KE'.out.mono ?_);rintro e9 w4 ⟨rfl,hb4⟩;have HB4:=A6 hb4;clear hb4)
 go_upto_region 3 with(go_at_call 12;(with_reducible refine(KD.out _).mono ?_);rintro e9 w5 ⟨p0,q0,p1,q1,p2,q2,p3,q3,rfl,ho5,hb5⟩;have HO5:=A6 ho5;have HB5:=A6 hb5;clear ho5 hb5)
 obtain⟨X,hX⟩:=gA (w5.heap.size)
 obtain⟨V,hV⟩:=gA (w5.alloc (.cells #[.slice p0 0 q0,.slice p1 0 q1,.slice p2 0 q2,.slice p3 0 q3] 27))
 have hbV:Below w5.heap.size w5 V:=by rw[<-hV];exact A5 _ _
 have x0:V.cell? ⟨X,0,none⟩=some (.slice p0 0 q0):=by rw[<-hV,<-hX];simp[go_sem]
 have x1:V.cell? ⟨X,1,none⟩=some (.slice p1 0 q1):=by rw[<-hV,<-hX];simp[go_sem]
 have x2:V.cell? ⟨X,2,none⟩=some (.slice p2 0 q2):=by rw[<-hV,<-hX];simp[go_sem]
 have x3:V.cell? ⟨X,3,none⟩=some (.slice p3 0 q3):=by rw[<-hV,<-hX];simp[go_sem]
 have HX:=A6 (And.intro x0 (And.intro x1 (And.intro x2 x3)));have HBV:Hid (Below w.heap.size w V):=bel (bel HB4.out HB5.out) hbV;have HCV:=A6 ((LD HO5.out).below hbV);try rw[hV]
 try rw[hX]
 clear hV hX hbV x0 x1 x2 x3 HO5 HB4 HB5 KE' KD;go_upto_region 4 with(go_at_call 12;(with_reducible refine(KC.out _).mono ?_);rintro e9 w6 ⟨rfl,hb6⟩;have HB6:=A6 hb6;clear hb6)
 obtain⟨V2,hV2⟩:∃V,w6.alloc (.cells #[.slice none 0 0,.slice none 0 0,.slice none 0 0,.slice none 0 0] 27)=V:=⟨_,rfl⟩
 have hb2:Below V.heap.size V V2:=by rw[<-hV2];exact bel HB6.out (A5 _ _)
 obtain⟨x0,x1,x2,x3⟩:=HX.out;have y0:=kc hb2 x0;have y1:=kc hb2 x1;have y2:=kc hb2 x2;have y3:=kc hb2 x3;have KQ2:=A6 (KQ.out V2 _ _ _ _ (HCV.below hb2));have HB2:Hid (Below w.heap.size w V2):=bel HBV.out hb2;try rw[hV2]
 clear hV2 hb2 x0 x1 x2 x3 HX KQ HCV HBV KC;go_wp2_with(first|(go_at_call 10;(with_reducible refine KQ2.out.mono ?_);rintro e9 w7 ⟨rfl,hb7⟩;have HB7:=A6 (bel HB2.out hb7);clear hb7)|(go_at_call 19;(with_reducible refine(KP.out _).mono ?_);rintro e9 w8 ⟨rfl,rfl⟩));refine bodyPost_ret (by simp[results,results11,go_sem, *];try rfl) rfl ?_;exact⟨by first|rfl|simp,HB7.out⟩
theorem DD{α:Type}{e:α->List Nat}{m n:Nat}{l:List α}(h:∀x∈l,(e x).length<=m)(hn:l.length<=n)(h9:n<9223372036854775808):(An e l).length<=9+m*n:=by
 have h1:=B9 (e:=e) (m:=m) l h;have h2:=Al (n:=l.length) oM;have h3:m*l.length<=m*n:=Nat.mul_le_mul_left m hn;unfold An;rw[List.length_append];omega
theorem Kg{c:Cd}(h:BI c):(Bv c).length<=3000000:=by
 have h1:=DD (e:=AS) (fun x hx=>Ed (h.1.2 x hx)) h.1.1 dE;have h2:=DD (e:=BL) (fun x hx=>Ct (h.2.1.2 x hx)) h.2.1.1 dE;have h3:=DD (e:=C5) (fun x hx=>F2 (h.2.2.1.2 x hx)) h.2.2.1.1 dE;have h4:=DD (e:=Bf) (fun x hx=>Dq (h.2.2.2.2 x hx)) h.2.2.2.1 dE;unfold Bv;simp only[List.length_append];omega

section
open Go.Lib (strCells run_append_own_string)
theorem Ji:∀ (k n i:Nat) (hi:i<(AK k n).length),(AK k n)[i]=n/256^i%256
 |0,n,i,hi=>by cases hi
 |k+1,n,0,hi=>by show n%256=n/1%256;rw[Nat.div_one]
 |k+1,n,i+1,hi=>by
  have hi':i<(AK k (n/256)).length:=by
   have h9:i+1<(AK k (n/256)).length+1:=hi;omega
  show(AK k (n/256))[i]=_;rw[Ji k (n/256) i hi',Nat.div_div_eq_div_mul,Nat.pow_succ,Nat.mul_comm]
theorem O1{E:Nat}{w:World}{v:Value}{l:List Nat}(h:w.ownsRow E 5 1 v l.length (GM l))(hb:∀b∈l,b<256)(hn:0<l.length):
 ∃p q,v=.slice p l.length q/\(convert 49 9 (.slice p l.length q)).run prog w=.ok (.string (AT l)) w:=by
 rcases h.2 with⟨-,e2⟩|⟨g,cap,cur,e1,-⟩
 .omega
 .refine⟨some ⟨g,0,none⟩,cap,e1,?_⟩;have hob:v.ownBlock=some g:=by rw[e1];rfl
  have hl:(l.map UInt8.ofNat).length=l.length:=List.length_map _;have:=run_convert_bytes_back (P:=prog) w 49 9 5 ⟨g,0,none⟩ cap (l.map UInt8.ofNat) underlying49 underlying5 underlying9 (fun j hj=>by
   have hj':j<l.length:=by rw[<-hl];exact hj
   have hlt:=hb l[j] (gD hj');have h9:=h.cells hob j (.int .u8 ((l[j]:Nat):Int)) (by unfold GM;simp[hj'])
   rw[h9,List.getElem_map,UInt8.toNat_ofNat',Nat.mod_eq_of_lt hlt])
  rw[hl]at this;exact this
end
theorem B0(a b:List Nat):AT (a++b)=AT a++AT b:=by
 unfold AT;rw[List.map_append];apply ByteArray.ext;rw[ByteArray.data_append];simp
theorem Dp(V:World)(b:Nat)(hb:b<256):(convert 49 9 (.slice (some ⟨V.heap.size,0,none⟩) 1 1)).run prog (V.alloc (.cells #[.int .u8 (b:Int)] 5))=.ok (.string (AT [b])) (V.alloc (.cells #[.int .u8 (b:Int)] 5)):=by
 have:=run_convert_bytes_back (P:=prog) (V.alloc (.cells #[.int .u8 (b:Int)] 5)) 49 9 5 ⟨V.heap.size,0,none⟩ 1 [UInt8.ofNat b] underlying49 underlying5 underlying9 (fun j hj=>by
  have hj0:j=0:=by simp at hj;exact hj
  subst hj0;have hadd:(⟨V.heap.size,0,none⟩:Addr).add 0=⟨V.heap.size,0,none⟩:=by unfold Addr.add;split<;>simp_all
  rw[hadd]
  simp[go_sem,Nat.mod_eq_of_lt hb])
 exact this
theorem DC{u:World}{g:Nat}(b:Nat)(hb:b<256)(h:u.cell? ⟨g,0,none⟩=some (.int .u8 (b:Int))):(convert 49 9 (.slice (some ⟨g,0,none⟩) 1 1)).run prog u=.ok (.string (AT [b])) u:=by
 have:=run_convert_bytes_back (P:=prog) u 49 9 5 ⟨g,0,none⟩ 1 [UInt8.ofNat b] underlying49 underlying5 underlying9 (fun j hj=>by
  have hj0:j=0:=by simp at hj;exact hj
  subst hj0;have hadd:(⟨g,0,none⟩:Addr).add 0=⟨g,0,none⟩:=by unfold Addr.add;split<;>simp_all
  rw[hadd,h]
  simp[Nat.mod_eq_of_lt hb])
 exact this
theorem RX{x:Nat}(hx:x<128):bits .or .u8 (x:Int) 128=((x+128:Nat):Int):=by
 have h:(BitVec.ofInt 8 (x:Int)|||BitVec.ofInt 8 (128:Int)).toNat=x|||128:=by
  rw[BitVec.toNat_or];simp only[BitVec.ofInt_natCast,BitVec.toNat_ofNat];rw[Nat.mod_eq_of_lt oM];rfl
 have h2:x|||128=x+128:=by
  rw[Nat.or_comm,show(128:Nat)=2^7*1 by decide,<-Nat.two_pow_add_eq_or_of_lt oM,Nat.add_comm]
 show IntKind.u8.wrap (((BitVec.ofInt 8 (x:Int)|||BitVec.ofInt 8 (128:Int)).toNat:Nat):Int)=_;rw[h,h2,IntKind.wrap_u8'];omega
theorem AP(n:Nat):n<9223372036854775808->∀w:World,
 Calls prog 20 #[.int .i64 (n:Int)] w fun e w'=>e=.returned (.string (AT (Ak n)))/\Below w.heap.size w w':=by
 induction n using Nat.strongRecOn with
 |ind n ih=>
  intro hn w;by_cases h:n<128
  .have e1:(n:Int)<128:=oM;have w1:IntKind.u8.wrap (n:Int)=(n:Int):=by rw[IntKind.wrap_u8'];omega
   have hc1:=Dp w n oM;rw[BP h];clear ih;go_enter func20,ntmps20;go_wp2;refine bodyPost_ret (by simp[results,results20,go_sem, *];try rfl) rfl ?_;exact⟨rfl,A5 _ _⟩
  .have e1:¬ (n:Int)<128:=oM;have HNB:=A6 (Ch h);obtain⟨R,hR⟩:=gA (n%128)
   obtain⟨Q,hQ⟩:=gA (n/128)
   rw[hR,hQ]at HNB;have tm:(n:Int).tmod 128=(R:Int):=by rw[Int.tmod_eq_emod_of_nonneg oM];omega
   have tm':(n:Int)%128=(R:Int):=oM;have wR:IntKind.i64.wrap (R:Int)=(R:Int):=by rw[IntKind.wrap_i64];omega
   have w1:IntKind.u8.wrap (R:Int)=(R:Int):=by rw[IntKind.wrap_u8'];omega
   have ho:=RX (x:=R) oM;obtain⟨B,hB⟩:=gA (R+128)
   rw[hB]at ho HNB;have hsr:(n:Int)/2^7=(Q:Int):=by rw[show(2:Int)^7=128 by decide];omega
   have hsr':(n:Int)/128=(Q:Int):=oM;have hc1:=fun(V:World)=>Dp V B oM;have KI:=A6 (fun(v:World)=>ih Q oM oM v);have HT:Hid (AT (Ak n)=AT [B]++AT (Ak Q)):=by show _=_;rw[HNB.out,<-B0];rfl
   obtain⟨T,hT⟩:=gA (AT (Ak n))
   obtain⟨T1,hT1⟩:∃T,AT [B]=T:=⟨_,rfl⟩
   obtain⟨T2,hT2⟩:∃T,AT (Ak Q)=T:=⟨_,rfl⟩
   rw[hT,hT1,hT2]at HT;have HT1:=A6 hT1;have HB2:Hid (B<256):=by show B<256;omega
   have hs1:¬9223372036854775807<T1.size+T2.size:=by
    rw[<-hT1,<-hT2,Af,Af];have:=Al (n:=Q) oM;simp only[List.length_singleton];omega
   rw[hT2]at KI;simp only[hT1]at hc1;have hcA:=DC (u:=(w.alloc (.cells #[.int .u8 (B:Int)] 5)).drew) (g:=w.heap.size) B HB2.out sG;rw[hT1]at hcA;rw[hT];clear ih hT hT1 hT2 HNB hR hQ hB h hn;go_enter func20,ntmps20;go_upto_region 3 with fail;refine wp_region_held_drew (S:=(fun _=>True)) kR ?_ (fun hJ=>?_)
   ·((try dsimp only);all_goals trivial)
   refine wpAnyH_take (i:=0) (v:=?_) A7 kR kR kR A8 (Or.inl ⟨rF,?_⟩) A9 ?_
   rotate_left 1
   ·(intro wS hSw;(try dsimp only at hSw);go_simp;try(with_reducible rfl))
   try simp only[Act.put,List.setIfInBounds_toArray,List.set_cons_zero,List.set_cons_succ]
   refine wpAnyH_take (i:=1) (v:=?_) A7 kR kR kR A8 (Or.inl ⟨rF,?_⟩) A9 ?_
   rotate_left 1
   ·(intro wS hSw;(try dsimp only at hSw);go_simp;try(with_reducible rfl))
   try simp only[Act.put,List.setIfInBounds_toArray,List.set_cons_zero,List.set_cons_succ]
   refine wpAnyH_take (i:=2) (v:=?_) A7 kR kR kR A8 (Or.inl ⟨rF,?_⟩) A9 ?_
   rotate_left 1
   ·(intro wS hSw;(try dsimp only at hSw);go_simp;try(with_reducible rfl))
   try simp only[Act.put,List.setIfInBounds_toArray,List.set_cons_zero,List.set_cons_succ]
   refine wpAnyH_take (i:=3) (v:=?_) A7 kR kR kR A8 (Or.inl ⟨rF,?_⟩) A9 ?_
   rotate_left 1
   ·(intro wS hSw;(try dsimp only at hSw);go_simp;try(with_reducible rfl))
   try simp only[Act.put,List.setIfInBounds_toArray,List.set_cons_zero,List.set_cons_succ]
   refine wpAnyH_take (i:=6) (v:=?_) A7 kR kR kR A8 (Or.inl ⟨rF,?_⟩) A9 ?_
   rotate_left 1
   ·(intro wS hSw;(try dsimp only at hSw);go_simp;try(with_reducible rfl))
   try simp only[Act.put,List.setIfInBounds_toArray,List.set_cons_zero,List.set_cons_succ]
   refine wpAnyH_take (i:=7) (v:=?_) A7 kR kR kR A8 (Or.inl ⟨rF,?_⟩) A9 ?_
   rotate_left 1
   ·(intro wS hSw;(try dsimp only at hSw);go_simp;try(with_reducible rfl))
   try simp only[Act.put,List.setIfInBounds_toArray,List.set_cons_zero,List.set_cons_succ]
   clear hJ;refine wpAnyH_ready (rs:=[4,8]) kR sM ?_;refine Gk 4 (fun K hK=>?_) ?_
   .go_simp;refine hK.out _ _ ?_ (fun hJ=>?_)
    ·((try dsimp only);all_goals trivial)
    clear hK K;try simp only[Act.put,List.setIfInBounds_toArray,List.set_cons_zero,List.set_cons_succ]
    clear hJ;refine wpAnyH_ready (rs:=[5,8]) kR sM ?_;refine Gk 5 (fun K hK=>?_) ?_
    .go_simp;refine hK.out _ _ ?_ (fun hJ=>?_)
     ·((try dsimp only);all_goals trivial)
     clear hK K;try simp only[Act.put,List.setIfInBounds_toArray,List.set_cons_zero,List.set_cons_succ]
     clear hJ;refine AR 8 fun K hK=>?_;go_simp;(go_at_call 20;(with_reducible refine(KI.out _).mono ?_);rintro e9 w5 ⟨rfl,hb5⟩;have HB5:Hid (Below w.heap.size w w5):=bel ((A5 _ _).drew) hb5;clear hb5);try(go_wp2_with fail)
     exact Qy
    refine Gk 8 (fun K hK=>?_) AllReadyH.nil;go_simp;(go_at_call 20;(with_reducible refine(KI.out _).mono ?_);rintro e9 w5 ⟨rfl,hb5⟩;have hcv:=DC B HB2.out (kc hb5 (show((w.alloc (.cells #[.int .u8 (B:Int)] 5)).drew).cell? ⟨w.heap.size,0,none⟩=some (.int .u8 (B:Int)) by simp[go_sem]));rw[HT1.out]at hcv;have HB5:Hid (Below w.heap.size w w5):=bel ((A5 _ _).drew) hb5;clear hb5);try(go_wp2_with fail)
    refine hK.out _ _ ?_ (fun hJ=>?_)
    ·((try dsimp only);all_goals trivial)
    clear hK K;try simp only[Act.put,List.setIfInBounds_toArray,List.set_cons_zero,List.set_cons_succ]
    clear hJ;refine AR 5 fun K hK=>?_;go_simp;exact Qy
   refine Gk 8 (fun K hK=>?_) AllReadyH.nil;go_simp;(go_at_call 20;(with_reducible refine(KI.out _).mono ?_);rintro e9 w5 ⟨rfl,hb5⟩;have HB5:Hid (Below w.heap.size w (w5.alloc (.cells #[.int .u8 (B:Int)] 5))):=bel (bel ((Below.refl _ _).drew) hb5) (A5 _ _);clear hb5);try(go_wp2_with fail)
   refine hK.out _ _ ?_ (fun hJ=>?_)
   ·((try dsimp only);all_goals trivial)
   clear hK K;try simp only[Act.put,List.setIfInBounds_toArray,List.set_cons_zero,List.set_cons_succ]
   clear hJ;refine AR 4 fun K hK=>?_;go_simp;refine hK.out _ _ ?_ (fun hJ=>?_)
   ·((try dsimp only);all_goals trivial)
   clear hK K;try simp only[Act.put,List.setIfInBounds_toArray,List.set_cons_zero,List.set_cons_succ]
   clear hJ;refine AR 5 fun K hK=>?_;go_simp;exact Qy
theorem FE(P:Nat)(hP:P<18446744073709551616)(M:Nat)(hM0:1<=M)(hM:M<=8)(w:World):
 Calls prog 22 #[.int .u64 (P:Int),.int .i64 (M:Int)] w fun e w'=>e=.returned (.string (AT (AK M P)))/\Below w.heap.size w w':=by
 obtain⟨T,hT⟩:=gA (AT (AK M P))
 rw[hT];have HTT:=A6 hT;clear hT;go_enter func22,ntmps22;go_upto_block 0 with fail;go_wp2_with fail
 go_loopw [5,6] (fun bv iv wx=>∃ (i n:Nat) (p:Option Addr) (q:Nat),i<=M/\iv=.int .i64 (i:Int)/\bv=.slice p n q/\Hid (n=i/\Below w.heap.size w wx/\wx.ownsRow w.heap.size 5 1 (.slice p n q) n (GM ((AK M P).take i)))) (fun _ iv _=>M-(intOf iv).toNat)
 case atStart=>exact⟨0,0,none,0,gI _,rfl,rfl,rfl,Below.refl _ _,World.ownsRow_nil _ _ _ 1⟩
 case round=>
  obtain⟨i,n,p,q,hi,rfl,rfl,HJ⟩:=hrel;by_cases hlt:i<M
  .obtain⟨j1,j2,j3⟩:=HJ.out;have e1:(i:Int)<(M:Int):=oM;have w8:IntKind.i64.wrap (8*(i:Int))=((8*i:Nat):Int):=by rw[IntKind.wrap_i64];omega
   have wu:IntKind.u64.wrap ((8*i:Nat):Int)=((8*i:Nat):Int):=by unfold IntKind.wrap;simp[IntKind.signed,IntKind.bits];omega
   obtain⟨Q,hQ⟩:=gA (P/256^i)
   have hsr:(P:Int)/2^(8*i)=(Q:Int):=by rw[<-hQ,show(256:Nat)^i=2^(8*i) by rw[Nat.pow_mul],Int.natCast_ediv,Int.natCast_pow];rfl
   obtain⟨D,hD⟩:=gA (Q%256)
   have wD:IntKind.u8.wrap (Q:Int)=(D:Int):=by rw[IntKind.wrap_u8'];omega
   obtain⟨g,c',w2,a1,a2,a3,-⟩:=CL underlying49 Gw rfl dE j3 j2.size #[.int .u8 (D:Int)] rfl (fun u hu=>by simp at hu;rw[hu];rfl) mL oM 49;have hll:i<(AK M P).length:=by rw[AN];exact hlt
   have hrow:GM ((AK M P).take i)++[Value.int .u8 (D:Int)]=GM ((AK M P).take (i+1)):=by
    rw[List.take_succ_eq_append_getElem hll,Ji M P i hll,hQ,hD];unfold GM;simp
   have HA1:=A6 a1;have HN:Hid (n+1=(i+1)/\Below w.heap.size w w2/\w2.ownsRow w.heap.size 5 1 (.slice (some ⟨g,0,none⟩) (n+1) c') (n+1) (GM ((AK M P).take (i+1)))):=⟨oM,j2.trans a2,by rw[<-hrow];exact a3⟩
   have wi:IntKind.i64.wrap ((i:Int)+1)=((i+1:Nat):Int):=by rw[IntKind.wrap_i64];omega
   have s4:(0:Int)<=((8*i:Nat):Int):=oM;clear j1 j2 j3 a1 a2 a3 hQ hD hll hrow HJ;go_wp2_with(at_builtin;refine AF rF _ _ _ rF _ _ _ rF rF HA1.out ?_);go_roundw
   case rel=>exact⟨i+1,n+1,some ⟨g,0,none⟩,c',oM,gN,rfl,HN.out⟩
   case measure=>simp[intOf];omega
  .obtain⟨j1,j2,j3⟩:=HJ.out;have e1:¬ (i:Int)<(M:Int):=oM;have hti:(AK M P).take i=AK M P:=List.take_of_length_le (by rw[AN];omega);rw[hti]at j3;have hn:n=(AK M P).length:=by rw[AN];omega
   rw[hn]at j3;obtain⟨p',q',e2,hcv⟩:=O1 j3 (fun b hb=>DF _ _ b hb) (by rw[AN];omega);simp only[Value.slice.injEq,true_and]at e2;obtain⟨rfl,rfl⟩:=e2;rw[<-hn]at hcv;have HB2:=A6 j2;rw[HTT.out]at hcv;clear j1 j2 j3 hti HJ hlt hn;go_wp2;refine bodyPost_ret (by simp[results,results22,go_sem, *];try rfl) rfl ?_;exact⟨rfl,HB2.out⟩
theorem Es(t:Ty)(ht:Fu t)(w:World):
 Calls prog 21 #[.agg #[.int .i64 t.kind,.int .i64 t.par]] w fun e w'=>e=.returned (.string (AT (BL t)))/\Below w.heap.size w w':=by
 obtain⟨tk,tp⟩:=t;obtain⟨h1,h2,h3,h4,h5⟩:=ht;simp only at h1 h2 h3 h4 h5 |-;obtain⟨K,rfl⟩:∃K:Nat,tk=(K:Int):=⟨tk.toNat,oM⟩
 obtain⟨P,rfl⟩:∃P:Nat,tp=(P:Int):=⟨tp.toNat,oM⟩
 obtain⟨W0,hW0⟩:∃W,w.alloc (.cells #[.int .i64 (K:Int),.int .i64 (P:Int)] 62)=W:=⟨_,rfl⟩
 obtain⟨X,hX⟩:=gA (w.heap.size)
 have hb0:Below w.heap.size w W0:=by rw[<-hW0];exact A5 _ _
 have x0:W0.cell? ⟨X,0,none⟩=some (.int .i64 (K:Int)):=by rw[<-hW0,<-hX];simp[go_sem]
 have x1:W0.cell? ⟨X,1,none⟩=some (.int .i64 (P:Int)):=by rw[<-hW0,<-hX];simp[go_sem]
 have y0:∀o,(W0.alloc o).cell? ⟨X,0,none⟩=some (.int .i64 (K:Int)):=fun o=>kc (A5 _ _) x0;have y1:∀o,(W0.alloc o).cell? ⟨X,1,none⟩=some (.int .i64 (P:Int)):=fun o=>kc (A5 _ _) x1;have w1:IntKind.u8.wrap (K:Int)=(K:Int):=by rw[IntKind.wrap_u8'];omega
 have hc1:=Dp W0 K oM;obtain⟨T1,hT1⟩:∃T,AT [K]=T:=⟨_,rfl⟩
 rw[hT1]at hc1;have HB0:=A6 hb0;by_cases q:K=3
 .have q2:((K:Int)==3)=true:=by rw[q];rfl
  have hE:AT (BL ⟨(K:Int),(P:Int)⟩)=T1++AT (Ak P):=by
   unfold BL Bt;simp only[Int.toNat_natCast,q,decide_true,if_true];rw[B0,<-hT1,q]
  obtain⟨T2,hT2⟩:∃T,AT (Ak P)=T:=⟨_,rfl⟩
  have hs1:¬9223372036854775807<T1.size+T2.size:=by
   rw[<-hT1,<-hT2,Af,Af];have:=Al (n:=P) oM;simp only[List.length_singleton];omega
  have KN:=A6 (fun v=>AP P oM v);rw[hT2]at KN;rw[hE,hT2];clear hE hT1 hT2 q hb0 h1 h2 h3 h4 h5;go_enter func21,ntmps21;go_upto_region 1 with fail;try rw[hW0]
  try rw[hX]
  clear hW0 hX;go_wp2_with(go_at_call 20;(with_reducible refine(KN.out _).mono ?_);rintro e9 w4 ⟨rfl,hb4⟩;have HB4:Hid (Below w.heap.size w w4):=bel (bel HB0.out (A5 _ _)) hb4;clear hb4);refine bodyPost_ret (by simp[results,results21,go_sem, *];try rfl) rfl ?_;exact⟨rfl,HB4.out⟩
 .have q2:((K:Int)==3)=false:=sO;have hE:AT (BL ⟨(K:Int),(P:Int)⟩)=T1:=by
   unfold BL Bt;simp only[Int.toNat_natCast,decide_eq_false q,Bool.false_eq_true,if_false,List.append_nil];exact hT1
  rw[hE];clear hE hT1 q hb0 h1 h2 h3 h4 h5;go_enter func21,ntmps21;go_upto_region 1 with fail;try rw[hW0]
  try rw[hX]
  clear hW0 hX;go_wp2;refine bodyPost_ret (by simp[results,results21,go_sem, *];try rfl) rfl ?_;exact⟨rfl,bel HB0.out (A5 _ _)⟩
end Go.Proofs.YtnlgkkbmbijndaaGreat
