import Derived.Test.YtjglaibglofddaaCos19
import Derived.Deep.DeepCutAuto
import Derived.Test.YtjglaibglofddaaCos13
import Derived.Test.YtjglaibglofddaaCos1
namespace Go.Proofs.Ytjglaibglofddaa
open Go.RowKit Go.Proofs.Try
set_option linter.all false
set_option maxRecDepth 100000
set_option maxHeartbeats 16000000
theorem Eb(v0 v1 v2 v3:Value)(c:Cd)(hk:AJ c)(w:World)(hv:Bt w v0 v1 v2 v3 c):
 Calls prog 8 #[.agg #[v0,v1,v2,v3]] w fun e w'=>e=.returned (.tuple #[.int .i64 (if(Ai c).1=0 then BK c else 0),.int .i64 (Ai c).1])/\Below w.heap.size w w':=by
 obtain⟨CV,hCV⟩:∃v,(if(Ai c).1=0 then BK c else 0)=v:=⟨_,rfl⟩
 rw[hCV];obtain⟨E,hE⟩:∃e,(Ai c).1=e:=⟨_,rfl⟩
 have HE:=A8 hE;rw[hE]at hCV |-;have HCV:=A8 hCV;clear hCV;obtain⟨X,hX⟩:=gA (w.heap.size)
 obtain⟨W0,hW0⟩:∃W,w.alloc (.cells #[v0,v1,v2,v3] 27)=W:=⟨_,rfl⟩
 have hb0:Below w.heap.size w W0:=by rw[<-hW0];exact A0 _ _
 have x0:W0.cell? ⟨X,0,none⟩=some v0:=by rw[<-hW0,<-hX];simp[go_sem]
 have x1:W0.cell? ⟨X,1,none⟩=some v1:=by rw[<-hW0,<-hX];simp[go_sem]
 have x2:W0.cell? ⟨X,2,none⟩=some v2:=by rw[<-hW0,<-hX];simp[go_sem]
 have x3:W0.cell? ⟨X,3,none⟩=some v3:=by rw[<-hW0,<-hX];simp[go_sem]
 have HAT:Hid (AM W0 X v0 v1 v2 v3 c):=by
  exact L7
 have KC:=A8 (Cn v0 v1 v2 v3 c hk W0 (hv.below hb0));rw[hE]at KC;have HB0:=A8 hb0;have HW0:=A8 hW0;clear hv hb0 hE hk hW0;go_enter func8,ntmps8;go_upto_region 1 with fail;try rw[HW0.out]
 try rw[hX]
 clear hX;go_upto_region 2 with(go_at_call 19;(with_reducible refine KC.out.mono ?_);rintro e9 w4 ⟨rfl,hb4⟩;have HB4:=A8 hb4;clear hb4)
 have HB:=A8 (bel HB0.out HB4.out);clear x0 x1 x2 x3 KC;by_cases h0:E=0
 .subst h0;have KO:=A8 (Dm X _ _ _ _ c HE.out w4 (HAT.below HB4.out));have HV:Hid (CV=BK c):=by show _=_;rw[<-HCV.out,if_pos rfl]
  go_wp2_with(go_at_call 20;(with_reducible refine KO.out.mono ?_);rintro e9 w5 ⟨rfl,hb5⟩;have HB5:=A8 (bel HB.out hb5);clear hb5);refine bodyPost_ret (by simp[results,results8,go_sem, *];try rfl) rfl ?_;exact⟨by rw[HV.out],HB5.out⟩
 .have q1:(E==0)=false:=beq_eq_false_iff_ne.2 h0;have q2:(E != 0)=true:=by simp[h0]
  have HV:Hid (CV=0):=by show _=_;rw[<-HCV.out,if_neg h0]
  have H0:=A8 h0;clear h0;go_wp2_with fail;refine bodyPost_ret (by simp[results,results8,go_sem, *];try rfl) rfl ?_;exact⟨by rw[HV.out],HB.out⟩
theorem Ec(v0 v1 v2 v3:Value)(c:Cd)(hk:AJ c)(w:World)(hv:Bt w v0 v1 v2 v3 c):
 Calls prog 9 #[.agg #[v0,v1,v2,v3]] w fun e w'=>e=.returned (.tuple #[.int .i64 (if(Ai c).1=0 then BB c else 0),.int .i64 (Ai c).1])/\Below w.heap.size w w':=by
 obtain⟨CV,hCV⟩:∃v,(if(Ai c).1=0 then BB c else 0)=v:=⟨_,rfl⟩
 rw[hCV];obtain⟨E,hE⟩:∃e,(Ai c).1=e:=⟨_,rfl⟩
 have HE:=A8 hE;rw[hE]at hCV |-;have HCV:=A8 hCV;clear hCV;obtain⟨X,hX⟩:=gA (w.heap.size)
 obtain⟨W0,hW0⟩:∃W,w.alloc (.cells #[v0,v1,v2,v3] 27)=W:=⟨_,rfl⟩
 have hb0:Below w.heap.size w W0:=by rw[<-hW0];exact A0 _ _
 have x0:W0.cell? ⟨X,0,none⟩=some v0:=by rw[<-hW0,<-hX];simp[go_sem]
 have x1:W0.cell? ⟨X,1,none⟩=some v1:=by rw[<-hW0,<-hX];simp[go_sem]
 have x2:W0.cell? ⟨X,2,none⟩=some v2:=by rw[<-hW0,<-hX];simp[go_sem]
 have x3:W0.cell? ⟨X,3,none⟩=some v3:=by rw[<-hW0,<-hX];simp[go_sem]
 have HAT:Hid (AM W0 X v0 v1 v2 v3 c):=by
  exact L7
 have KC:=A8 (Cn v0 v1 v2 v3 c hk W0 (hv.below hb0));rw[hE]at KC;have HB0:=A8 hb0;have HW0:=A8 hW0;clear hv hb0 hE hk hW0;go_enter func9,ntmps9;go_upto_region 1 with fail;try rw[HW0.out]
 try rw[hX]
 clear hX;go_upto_region 2 with(go_at_call 19;(with_reducible refine KC.out.mono ?_);rintro e9 w4 ⟨rfl,hb4⟩;have HB4:=A8 hb4;clear hb4)
 have HB:=A8 (bel HB0.out HB4.out);clear x0 x1 x2 x3 KC;by_cases h0:E=0
 .subst h0;have KO:=A8 (Dn X _ _ _ _ c HE.out w4 (HAT.below HB4.out));have HV:Hid (CV=BB c):=by show _=_;rw[<-HCV.out,if_pos rfl]
  go_wp2_with(go_at_call 21;(with_reducible refine KO.out.mono ?_);rintro e9 w5 ⟨rfl,hb5⟩;have HB5:=A8 (bel HB.out hb5);clear hb5);refine bodyPost_ret (by simp[results,results9,go_sem, *];try rfl) rfl ?_;exact⟨by rw[HV.out],HB5.out⟩
 .have q1:(E==0)=false:=beq_eq_false_iff_ne.2 h0;have q2:(E != 0)=true:=by simp[h0]
  have HV:Hid (CV=0):=by show _=_;rw[<-HCV.out,if_neg h0]
  have H0:=A8 h0;clear h0;go_wp2_with fail;refine bodyPost_ret (by simp[results,results9,go_sem, *];try rfl) rfl ?_;exact⟨by rw[HV.out],HB.out⟩
theorem DQ(v0 v1 v2 v3:Value)(c:Cd)(hk:AJ c)(w:World)(hv:Bt w v0 v1 v2 v3 c):
 Calls prog 16 #[.agg #[v0,v1,v2,v3]] w fun e w'=>e=.returned (.int .i64 (Cy c))/\Below w.heap.size w w':=by
 obtain⟨CV,hCV⟩:∃v,Cy c=v:=⟨_,rfl⟩
 rw[hCV];have HCV:=A8 hCV;clear hCV;obtain⟨E,hE⟩:∃e,(Ai c).1=e:=⟨_,rfl⟩
 have HE:=A8 hE;obtain⟨X,hX⟩:=gA (w.heap.size)
 obtain⟨W0,hW0⟩:∃W,w.alloc (.cells #[v0,v1,v2,v3] 27)=W:=⟨_,rfl⟩
 have hb0:Below w.heap.size w W0:=by rw[<-hW0];exact A0 _ _
 have x0:W0.cell? ⟨X,0,none⟩=some v0:=by rw[<-hW0,<-hX];simp[go_sem]
 have x1:W0.cell? ⟨X,1,none⟩=some v1:=by rw[<-hW0,<-hX];simp[go_sem]
 have x2:W0.cell? ⟨X,2,none⟩=some v2:=by rw[<-hW0,<-hX];simp[go_sem]
 have x3:W0.cell? ⟨X,3,none⟩=some v3:=by rw[<-hW0,<-hX];simp[go_sem]
 have HAT:Hid (AM W0 X v0 v1 v2 v3 c):=by
  exact L7
 have KC:=A8 (Cn v0 v1 v2 v3 c hk W0 (hv.below hb0));rw[hE]at KC;have HB0:=A8 hb0;have HW0:=A8 hW0;clear hv hb0 hE hk hW0;go_enter func16,ntmps16;go_upto_region 1 with fail;try rw[HW0.out]
 try rw[hX]
 clear hX;go_upto_region 2 with(go_at_call 19;(with_reducible refine KC.out.mono ?_);rintro e9 w4 ⟨rfl,hb4⟩;have HB4:=A8 hb4;clear hb4)
 have HB:=A8 (bel HB0.out HB4.out);clear x0 x1 x2 x3 KC;by_cases h0:E=0
 .subst h0;have HV:Hid (Cy c=if 16777216<BB c then 261 else if 4294967296<BK c then 260 else 0):=by show _=_;unfold Cy;rw[if_neg Km]
  obtain⟨RV,hRV⟩:∃r,BB c=r:=⟨_,rfl⟩
  obtain⟨CO,hCV⟩:∃r,BK c=r:=⟨_,rfl⟩
  have KR:=A8 (Dn X _ _ _ _ c HE.out w4 (HAT.below HB4.out));have KO:=A8 (fun(v:World) (h:Below w4.heap.size w4 v)=>Dm X _ _ _ _ c HE.out v ((HAT.below HB4.out).below h));have KJ:=A8 (fun v=>FM RV CO v);rw[hRV]at KR HV;rw[hCV]at KO HV;obtain⟨JV,hJV⟩:∃r,(if 16777216<RV then 261 else if 4294967296<CO then 260 else 0:Int)=r:=⟨_,rfl⟩
  rw[hJV]at KJ HV;have HVV:Hid (CV=JV):=by show _=_;rw[<-HCV.out,HV.out]
  clear hRV hCV hJV HV;go_wp2_with(first|(go_at_call 21;(with_reducible refine KR.out.mono ?_);rintro e9 w5 ⟨rfl,hb5⟩;have HB5:=A8 hb5;clear hb5)|(go_at_call 20;(with_reducible refine(KO.out _ HB5.out).mono ?_);rintro e9 w6 ⟨rfl,hb6⟩;have HB6:=A8 (bel HB.out (bel HB5.out hb6));clear hb6)|(go_at_call 27;(with_reducible refine(KJ.out _).mono ?_);rintro e9 w7 ⟨rfl,hw7⟩;have hw7:=hw7.symm;subst hw7));refine bodyPost_ret (by simp[results,results16,go_sem, *];try rfl) rfl ?_;exact⟨by rw[HVV.out],HB6.out⟩
 .have q1:(E==0)=false:=beq_eq_false_iff_ne.2 h0;have q2:(E != 0)=true:=by simp[h0]
  have HV:Hid (CV=E):=by show _=_;rw[<-HCV.out];unfold Cy;rw[if_pos (by rw[HE.out];exact h0),HE.out]
  have H0:=A8 h0;clear h0;go_wp2_with fail;refine bodyPost_ret (by simp[results,results16,go_sem, *];try rfl) rfl ?_;exact⟨by rw[HV.out],HB.out⟩
theorem D4(v0 v1 v2 v3:Value)(c:Cd)(hk:AJ c)(at_:Int)(w:World)(hv:Bt w v0 v1 v2 v3 c):
 Calls prog 10 #[.agg #[v0,v1,v2,v3],.int .i64 at_] w fun e w'=>e=.returned (.tuple #[.int .i64 (AB c at_).1,.int .i64 (AB c at_).2])/\Below w.heap.size w w':=by
 obtain⟨X1,hX1⟩:∃v,(AB c at_).1=v:=⟨_,rfl⟩
 obtain⟨X2,hX2⟩:∃v,(AB c at_).2=v:=⟨_,rfl⟩
 rw[hX1,hX2];have HXV:Hid (AB c at_=(X1,X2)):=by show _=_;rw[<-hX1,<-hX2]
 clear hX1 hX2;obtain⟨E,hE⟩:∃e,(Ai c).1=e:=⟨_,rfl⟩
 have HE:=A8 hE;obtain⟨X,hX⟩:=gA (w.heap.size)
 obtain⟨W0,hW0⟩:∃W,w.alloc (.cells #[v0,v1,v2,v3] 27)=W:=⟨_,rfl⟩
 have hb0:Below w.heap.size w W0:=by rw[<-hW0];exact A0 _ _
 have x0:W0.cell? ⟨X,0,none⟩=some v0:=by rw[<-hW0,<-hX];simp[go_sem]
 have x1:W0.cell? ⟨X,1,none⟩=some v1:=by rw[<-hW0,<-hX];simp[go_sem]
 have x2:W0.cell? ⟨X,2,none⟩=some v2:=by rw[<-hW0,<-hX];simp[go_sem]
 have x3:W0.cell? ⟨X,3,none⟩=some v3:=by rw[<-hW0,<-hX];simp[go_sem]
 have HAT:Hid (AM W0 X v0 v1 v2 v3 c):=by
  exact L7
 have KC:=A8 (Cn v0 v1 v2 v3 c hk W0 (hv.below hb0));rw[hE]at KC;have HB0:=A8 hb0;have HW0:=A8 hW0;clear hv hb0 hE hk hW0;go_enter func10,ntmps10;go_upto_region 1 with fail;try rw[HW0.out]
 try rw[hX]
 clear hX;go_upto_region 2 with(go_at_call 19;(with_reducible refine KC.out.mono ?_);rintro e9 w4 ⟨rfl,hb4⟩;have HB4:=A8 hb4;clear hb4)
 have HB:=A8 (bel HB0.out HB4.out);clear x0 x1 x2 x3 KC;by_cases h0:E=0
 .subst h0;obtain⟨p3,q3,rfl,-⟩:=id HAT.2.list;have c3:w4.cell? ⟨X,3,none⟩=some (.slice p3 c.list.length q3):=kc HB4.out (HAT.1.at 3 rfl);by_cases hn:at_<0
  .have HV:Hid (AB c at_=(0,1)):=by show _=_;unfold AB;rw[if_neg Km,if_neg (by rw[Am];omega)]
   have HVV:Hid (((X1,X2):Int×Int)=(0,1)):=by show _=_;rw[<-HXV.out,HV.out]
   clear HV;exact LC
  .by_cases hm:(c.list.length:Int)<=at_
   .have HV:Hid (AB c at_=(0,1)):=by show _=_;unfold AB;rw[if_neg Km,if_neg (by rw[Am];omega)]
    have HVV:Hid (((X1,X2):Int×Int)=(0,1)):=by show _=_;rw[<-HXV.out,HV.out]
    obtain⟨L,hL⟩:∃n,c.list.length=n:=⟨_,rfl⟩
    rw[hL]at c3 hm;have hm2:at_≥(L:Int):=hm;clear HV hL;exact LC
   .obtain⟨k,rfl⟩:∃k:Nat,at_=(k:Int):=⟨at_.toNat,oM⟩
    have hkl:k<c.list.length:=oM;have HV:Hid (AB c (k:Int)=(B7 c c.list[k],0)):=by
     show _=_;unfold AB;rw[if_neg Km,if_pos (Am.2 ⟨oM,oM⟩),Int.toNat_natCast,gB hkl];rfl
    have HVV:Hid (((X1,X2):Int×Int)=(B7 c c.list[k],0)):=by show _=_;rw[<-HXV.out,HV.out]
    obtain⟨hd,ha⟩:=Gy HE.out c.list[k] (gD hkl);obtain⟨bb,oo,hpp,hcl⟩:=HAT.2.list.at hkl;have KW:=A8 (DR X bb (oo+k*7) _ _ _ _ c (Ci HE.out).1 c.list[k] hd ha (DP HE.out) w4 (HAT.below HB4.out) (hcl.below HB4.out));obtain⟨WG,hWG⟩:∃g,B7 c c.list[k]=g:=⟨_,rfl⟩
    rw[hWG]at KW HVV;obtain⟨L,hL⟩:∃n,c.list.length=n:=⟨_,rfl⟩
    rw[hL]at c3 hkl hm;have e1:¬ (k:Int)<0:=oM;have e2:¬ ((k:Int)≥(L:Int)):=oM;have e3:(k:Int)<(L:Int):=oM;have i1:(0:Int)<=(k:Int):=oM;subst hpp;clear HV hL hd ha hcl hWG hn;go_wp2_with(go_at_call 22;(with_reducible refine KW.out.mono ?_);rintro e9 w5 ⟨rfl,hb5⟩;have HB5:=A8 (bel HB.out hb5);clear hb5);refine bodyPost_ret (by simp[results,results10,go_sem, *];try rfl) rfl ?_;exact⟨by rw[(Prod.mk.inj HVV.out).1,(Prod.mk.inj HVV.out).2],HB5.out⟩
 .have q1:(E==0)=false:=beq_eq_false_iff_ne.2 h0;have q2:(E != 0)=true:=by simp[h0]
  have HV:Hid (AB c at_=(0,E)):=by show _=_;unfold AB;rw[if_pos (by rw[HE.out];exact h0),HE.out]
  have HVV:Hid (((X1,X2):Int×Int)=(0,E)):=by show _=_;rw[<-HXV.out,HV.out]
  have H0:=A8 h0;clear h0 HV;exact LC
theorem Jr{α:Type}{k:Nat}{f:α->List Value}(hf:∀x,(f x).length=k){l:List α}(w:World)(cs:Array Value)(t:TypeId)(h:cs.toList=Bd f l)(c:Nat):AS k f (w.alloc (.cells cs t)) (.slice (some ⟨w.heap.size,0,none⟩) l.length c) l:=by
 refine⟨_,_,rfl,.inr ⟨w.heap.size,0,rfl,fun i hi j hj=>?_⟩⟩;have hj':j<k:=by rw[<-hf l[i]];exact hj
 have h1:=Dr hf l i j hi hj';rw[<-h]at h1;have h2:cs[0+i*k+j]? =some (f l[i])[j]:=by
  rw[Nat.zero_add,<-Array.getElem?_toList,h1,gB hj]
 have h3:(w.alloc (.cells cs t)).heap[w.heap.size]? =some (.cells cs t (0,0)):=heap_alloc_new w _;unfold World.cell?;simp only[h3];exact h2
theorem CR{α:Type}{k:Nat}{f:α->List Value}(hf:∀x,(f x).length=k){l:List α}(w:World)(cs:Array Value)(t:TypeId)(h:cs.toList=Bd f l)(c:Nat){n:Nat}(hn:w.heap.size=n):AS k f (w.alloc (.cells cs t)) (.slice (some ⟨n,0,none⟩) l.length c) l:=by
 subst hn;exact Jr hf w cs t h c
def Es:Cd:=⟨[⟨⟨#[119]⟩,1,3⟩],[⟨3,0⟩,⟨1,0⟩],[],[⟨29,0,0,0,0,0,0⟩,⟨19,1,0,0,0,0,0⟩,⟨6,0,0,1,0,0,0⟩,⟨31,0,0,0,0,0,0⟩]⟩
theorem EV:(Ai Es).1=0:=by decide+kernel
theorem Gv:AJ Es:=⟨dE,dE,dE,dE,dE,dE,dE⟩
theorem JC:BK Es=12:=by decide+kernel
theorem JD:BB Es=4:=by decide+kernel
theorem IR:AB Es 1=(3,0):=by decide+kernel
theorem H9:Cy Es=0:=by decide+kernel
def Kw:Cd:=⟨[],[],[],[⟨0,0,0,0,0,0,0⟩]⟩
theorem Kx:AJ Kw:=⟨dE,dE,dE,dE,dE,dE,dE⟩
theorem GG:Cy Kw=160:=by decide+kernel
theorem FK(w:World):Calls prog 26 #[] w fun e w'=>∃a b d,e=.returned (.agg #[.slice (some ⟨a,0,none⟩) 1 1,.slice (some ⟨b,0,none⟩) 2 2,.slice none 0 0,.slice (some ⟨d,0,none⟩) 4 4])/\Bt w' (.slice (some ⟨a,0,none⟩) 1 1) (.slice (some ⟨b,0,none⟩) 2 2) (.slice none 0 0) (.slice (some ⟨d,0,none⟩) 4 4) Es/\Below w.heap.size w w':=by
 go_enter func26,ntmps26;go_wp2;refine bodyPost_ret (by simp[results,results26,go_sem];try rfl) rfl ?_;refine⟨_,_,_,rfl,?_,gG⟩;exact⟨(CR (l:=Es.sign) CM _ _ _ rF 1 sM).below (A0 _ _),CR (l:=Es.regs) Dv _ _ _ rF 2 sM,⟨none,0,rfl,.inl rfl⟩,((CR (l:=Es.list) CI _ _ _ rF 4 sM).below (A0 _ _)).below (A0 _ _)⟩
theorem F1(w:World):Calls prog 15 #[] w fun e w'=>e=.returned (.bool true)/\Below w.heap.size w w':=by
 have KS:=A8 (fun v=>FK v);have K1:=A8 (fun(v:World) (a0 a1 a2 a3:Value) (h:Bt v a0 a1 a2 a3 Es)=>Eb a0 a1 a2 a3 Es Gv v h);have K2:=A8 (fun(v:World) (a0 a1 a2 a3:Value) (h:Bt v a0 a1 a2 a3 Es)=>Ec a0 a1 a2 a3 Es Gv v h);have K3:=A8 (fun(v:World) (a0 a1 a2 a3:Value) (h:Bt v a0 a1 a2 a3 Es)=>D4 a0 a1 a2 a3 Es Gv 1 v h);have K4:=A8 (fun(v:World) (a0 a1 a2 a3:Value) (h:Bt v a0 a1 a2 a3 Es)=>DQ a0 a1 a2 a3 Es Gv v h);have K5:=A8 (fun(v:World) (a0 a1 a2 a3:Value) (h:Bt v a0 a1 a2 a3 Kw)=>DQ a0 a1 a2 a3 Kw Kx v h);rw[EV,JC,if_pos rfl]at K1;rw[EV,JD,if_pos rfl]at K2;rw[IR]at K3;rw[H9]at K4;rw[GG]at K5;simp only at K3;have K6:Hid (∀v:World,Calls prog 16 #[.agg #[.slice none 0 0,.slice none 0 0,.slice none 0 0,.slice (some ⟨v.heap.size,0,none⟩) 1 1]] (v.alloc (.cells #[.int .i64 0,.int .i64 0,.int .i64 0,.int .i64 0,.int .i64 0,.int .i64 0,.int .u32 0] 53)) fun e w'=>e=.returned (.int .i64 160)/\Below v.heap.size v w'):=fun v=>(K5.out _ _ _ _ _ ⟨⟨none,0,rfl,.inl rfl⟩,⟨none,0,rfl,.inl rfl⟩,⟨none,0,rfl,.inl rfl⟩,CR (l:=Kw.list) CI v _ _ rF 1 rfl⟩).mono fun e w' ⟨h1,h2⟩=>⟨h1,bel (A0 _ _) h2⟩
 clear K5;go_enter func15,ntmps15;go_upto_region 2 with(first|(go_at_call 26;(with_reducible refine(KS.out _).mono ?_);rintro r9 w1 ⟨a1,b1,d1,rfl,hc1,hb1⟩;have HC1:=A8 hc1;have HB1:=A8 hb1;clear hc1 hb1)|(go_at_call 8;(with_reducible refine(K1.out _ _ _ _ _ HC1.out).mono ?_);rintro r9 w2 ⟨rfl,hb2⟩;have HB2:=A8 (bel HB1.out hb2);clear hb2))
 clear HC1 HB1 K1;go_upto_region 3 with(first|(go_at_call 26;(with_reducible refine(KS.out _).mono ?_);rintro r9 w3 ⟨a1,b1,d1,rfl,hc1,hb1⟩;have HC3:=A8 hc1;have HB3:=A8 (bel HB2.out hb1);clear hc1 hb1)|(go_at_call 9;(with_reducible refine(K2.out _ _ _ _ _ HC3.out).mono ?_);rintro r9 w4 ⟨rfl,hb2⟩;have HB4:=A8 (bel HB3.out hb2);clear hb2))
 clear HC3 HB2 HB3 K2;go_upto_region 4 with(first|(go_at_call 26;(with_reducible refine(KS.out _).mono ?_);rintro r9 w5 ⟨a1,b1,d1,rfl,hc1,hb1⟩;have HC5:=A8 hc1;have HB5:=A8 (bel HB4.out hb1);clear hc1 hb1)|(go_at_call 10;(with_reducible refine(K3.out _ _ _ _ _ HC5.out).mono ?_);rintro r9 w6 ⟨rfl,hb2⟩;have HB6:=A8 (bel HB5.out hb2);clear hb2))
 clear HC5 HB4 HB5 K3;go_wp2_with(first
  |(go_at_call 26;(with_reducible refine(KS.out _).mono ?_);rintro r9 w7 ⟨a1,b1,d1,rfl,hc1,hb1⟩;have HC7:=A8 hc1;have HB7:=A8 (bel HB6.out hb1);clear hc1 hb1)
  |(go_at_call 16;(with_reducible refine(K4.out _ _ _ _ _ HC7.out).mono ?_);rintro r9 w8 ⟨rfl,hb2⟩;have HB8:=A8 (bel HB7.out hb2);clear hb2)
  |(go_at_call 16;(with_reducible refine(K6.out _).mono ?_);rintro r9 w9 ⟨rfl,hb2⟩;have HB9:=A8 (bel HB8.out hb2);clear hb2))
 refine bodyPost_ret (by simp[results,results15,go_sem, *];try rfl) rfl ?_;exact⟨by first|rfl|simp,HB9.out⟩
theorem Di(v0 v1 v2 v3:Value)(c:Cd)(hk:AJ c)(hz:Kp c)(at_:Int)(hat1: -9223372036854775808<=at_)(hat2:at_<=9223372036854775807)(w:World)(hv:Bt w v0 v1 v2 v3 c):
 Calls prog 3 #[.agg #[v0,v1,v2,v3],.int .i64 at_] w fun e w'=>e=.returned (.bool true)/\Below w.heap.size w w':=by
 have KW:=A8 (fun v=>F1 v);obtain⟨p0,q0,rfl⟩:∃p q,v0=.slice p c.sign.length q:=by obtain⟨p,q,e,_⟩:=hv.sign;exact⟨p,q,e⟩
 obtain⟨p1,q1,rfl⟩:∃p q,v1=.slice p c.regs.length q:=by obtain⟨p,q,e,_⟩:=hv.regs;exact⟨p,q,e⟩
 obtain⟨p2,q2,rfl⟩:∃p q,v2=.slice p c.slots.length q:=by obtain⟨p,q,e,_⟩:=hv.slots;exact⟨p,q,e⟩
 obtain⟨p3,q3,rfl⟩:∃p q,v3=.slice p c.list.length q:=by obtain⟨p,q,e,_⟩:=hv.list;exact⟨p,q,e⟩
 obtain⟨X,hX⟩:=gA (w.heap.size)
 obtain⟨W0,hW0⟩:∃W,w.alloc (.cells #[.slice p0 c.sign.length q0,.slice p1 c.regs.length q1,.slice p2 c.slots.length q2,.slice p3 c.list.length q3] 27)=W:=⟨_,rfl⟩
 have hb0:Below w.heap.size w W0:=by rw[<-hW0];exact A0 _ _
 have x0:W0.cell? ⟨X,0,none⟩=some (.slice p0 c.sign.length q0):=by rw[<-hW0,<-hX];simp[go_sem]
 have x1:W0.cell? ⟨X,1,none⟩=some (.slice p1 c.regs.length q1):=by rw[<-hW0,<-hX];simp[go_sem]
 have x2:W0.cell? ⟨X,2,none⟩=some (.slice p2 c.slots.length q2):=by rw[<-hW0,<-hX];simp[go_sem]
 have x3:W0.cell? ⟨X,3,none⟩=some (.slice p3 c.list.length q3):=by rw[<-hW0,<-hX];simp[go_sem]
 have hv0:=hv.below hb0;have KT:=A8 (fun(u:World) (h:Below W0.heap.size W0 u)=>FL _ _ _ _ c hz u (hv0.below h));have HX:=A8 (fun(u:World) (h:Below W0.heap.size W0 u)=>(⟨kc h x0,kc h x1,kc h x2,kc h x3⟩:u.cell? ⟨X,0,none⟩=some (.slice p0 c.sign.length q0)/\u.cell? ⟨X,1,none⟩=some (.slice p1 c.regs.length q1)/\u.cell? ⟨X,2,none⟩=some (.slice p2 c.slots.length q2)/\u.cell? ⟨X,3,none⟩=some (.slice p3 c.list.length q3)));have HB0:=A8 hb0;obtain⟨A1,hA1⟩:∃a,(if(Ai c).1=0 then BK c else 0)=a:=⟨_,rfl⟩
 obtain⟨A2,hA2⟩:∃a,(if(Ai c).1=0 then BB c else 0)=a:=⟨_,rfl⟩
 obtain⟨A3,hA3⟩:∃a,(AB c at_).1=a:=⟨_,rfl⟩
 obtain⟨A4,hA4⟩:∃a,(AB c at_).2=a:=⟨_,rfl⟩
 obtain⟨E,hE⟩:∃a,(Ai c).1=a:=⟨_,rfl⟩
 have K1:=A8 (fun(u:World) (x0 x1 x2 x3:Value) (h:Bt u x0 x1 x2 x3 c)=>Eb x0 x1 x2 x3 c hk u h);have K2:=A8 (fun(u:World) (x0 x1 x2 x3:Value) (h:Bt u x0 x1 x2 x3 c)=>Ec x0 x1 x2 x3 c hk u h);have K3:=A8 (fun(u:World) (x0 x1 x2 x3:Value) (h:Bt u x0 x1 x2 x3 c)=>D4 x0 x1 x2 x3 c hk at_ u h);have R1:=A8 (fun(u:World) (h:Below W0.heap.size W0 u)=>EL p0 p1 p2 p3 q0 q1 q2 q3 c hk u (hv0.below h));have R2:=A8 (fun(u:World) (h:Below W0.heap.size W0 u)=>EN p0 p1 p2 p3 q0 q1 q2 q3 c hk u (hv0.below h));have R3:=A8 (fun(u:World) (h:Below W0.heap.size W0 u)=>FG p0 p1 p2 p3 q0 q1 q2 q3 c hk at_ u (hv0.below h));rw[hA1,hE]at K1 R1;rw[hA2,hE]at K2 R2;rw[hA3,hA4]at K3 R3;have KQ:=A8 (fun(v:World) (a0 a1 a2 a3:Value) (ha:Bt v a0 a1 a2 a3 c) (hb:Below W0.heap.size W0 v)=>Fy a0 a1 a2 a3 _ _ _ _ c c hk hk v ha (hv0.below hb));rw[Hm]at KQ;clear hb0 hv hv0 hA1 hA2 hA3 hA4 hE;go_enter func3,ntmps3;go_upto_region 1 with fail;try rw[hW0]
 try rw[hX]
 clear hW0 hX;go_upto_region 2 with(go_at_call 7;(with_reducible refine(KT.out _ (Below.refl _ _)).mono ?_);rintro e9 w3 ⟨t0,t1,t2,t3,rfl,ht3,ho3,hb3⟩;obtain⟨r0,s0,rfl⟩:=As ho3.sign;obtain⟨r1,s1,rfl⟩:=As ho3.regs;obtain⟨r2,s2,rfl⟩:=As ho3.slots;obtain⟨r3,s3,rfl⟩:=As ho3.list;have HT3:=A8 ht3;have HB3:=A8 hb3;clear ht3 ho3 hb3)
 obtain⟨Z,hZ⟩:=gA (w3.heap.size)
 obtain⟨V,hV⟩:=gA (w3.alloc (.cells #[.slice r0 c.sign.length s0,.slice r1 c.regs.length s1,.slice r2 c.slots.length s2,.slice r3 c.list.length s3] 27))
 have hbV:Below w3.heap.size w3 V:=by rw[<-hV];exact A0 _ _
 have z0:V.cell? ⟨Z,0,none⟩=some (.slice r0 c.sign.length s0):=by rw[<-hV,<-hZ];simp[go_sem]
 have z1:V.cell? ⟨Z,1,none⟩=some (.slice r1 c.regs.length s1):=by rw[<-hV,<-hZ];simp[go_sem]
 have z2:V.cell? ⟨Z,2,none⟩=some (.slice r2 c.slots.length s2):=by rw[<-hV,<-hZ];simp[go_sem]
 have z3:V.cell? ⟨Z,3,none⟩=some (.slice r3 c.list.length s3):=by rw[<-hV,<-hZ];simp[go_sem]
 have hcv:=HT3.below hbV;have HBV:Hid (Below W0.heap.size W0 V):=bel HB3.out hbV;have HZC:=A8 (fun(u:World) (h:Below V.heap.size V u)=>(⟨kc h z0,kc h z1,kc h z2,kc h z3⟩:u.cell? ⟨Z,0,none⟩=some (.slice r0 c.sign.length s0)/\u.cell? ⟨Z,1,none⟩=some (.slice r1 c.regs.length s1)/\u.cell? ⟨Z,2,none⟩=some (.slice r2 c.slots.length s2)/\u.cell? ⟨Z,3,none⟩=some (.slice r3 c.list.length s3)));have HCV:=A8 (fun(u:World) (h:Below V.heap.size V u)=>hcv.below h);have HV0:Hid (Below V.heap.size V V):=Below.refl _ _;try rw[hV]
 try rw[hZ]
 clear hV hZ hbV hcv HT3 HB3 KT x0 x1 x2 x3;go_upto_region 3 with(go_at_call 8;(with_reducible refine(K1.out _ _ _ _ _ (HCV.out _ HV0.out)).mono ?_);rintro e9 w4 ⟨rfl,hb⟩;have HV1:=A8 (bel HV0.out hb);clear hb)
 clear z0 z1 z2 z3;obtain⟨y0,y1,y2,y3⟩:=HZC.out _ HV1.out;go_upto_region 4 with(go_at_call 9;(with_reducible refine(K2.out _ _ _ _ _ (HCV.out _ HV1.out)).mono ?_);rintro e9 w5 ⟨rfl,hb⟩;have HV2:=A8 (bel HV1.out hb);clear hb)
 clear y0 y1 y2 y3;obtain⟨y0,y1,y2,y3⟩:=HZC.out _ HV2.out;go_upto_region 5 with(go_at_call 10;(with_reducible refine(K3.out _ _ _ _ _ (HCV.out _ HV2.out)).mono ?_);rintro e9 w6 ⟨rfl,hb⟩;have HV3:=A8 (bel HV2.out hb);clear hb)
 clear y0 y1 y2 y3;obtain⟨y0,y1,y2,y3⟩:=HX.out _ (bel HBV.out HV3.out);go_upto_region 6 with(go_at_call 11;(with_reducible refine(R1.out _ (bel HBV.out HV3.out)).mono ?_);rintro e9 w7 ⟨rfl,hb⟩;have HV4:=A8 (bel HV3.out hb);clear hb)
 clear y0 y1 y2 y3;obtain⟨y0,y1,y2,y3⟩:=HX.out _ (bel HBV.out HV4.out);go_upto_region 7 with(go_at_call 12;(with_reducible refine(R2.out _ (bel HBV.out HV4.out)).mono ?_);rintro e9 w8 ⟨rfl,hb⟩;have HV5:=A8 (bel HV4.out hb);clear hb)
 clear y0 y1 y2 y3;obtain⟨y0,y1,y2,y3⟩:=HX.out _ (bel HBV.out HV5.out);go_upto_region 8 with(go_at_call 13;(with_reducible refine(R3.out _ (bel HBV.out HV5.out)).mono ?_);rintro e9 w9 ⟨rfl,hb⟩;have HV6:=A8 (bel HV5.out hb);clear hb)
 clear y0 y1 y2 y3;obtain⟨y0,y1,y2,y3⟩:=HZC.out _ HV6.out;obtain⟨m0,m1,m2,m3⟩:=HX.out _ (bel HBV.out HV6.out);have KQ5:=A8 (KQ.out _ _ _ _ _ (HCV.out _ HV6.out) (bel HBV.out HV6.out));have HBF:Hid (Below w.heap.size w w9):=bel HB0.out (bel HBV.out HV6.out);clear KQ HX HZC K1 K2 K3 R1 R2 R3;go_wp2_with(first|(go_at_call 14;(with_reducible refine KQ5.out.mono ?_);rintro e9 wa ⟨rfl,hb6⟩;have HB6:=A8 (bel HBF.out hb6);clear hb6)|(go_at_call 15;(with_reducible refine(KW.out _).mono ?_);rintro e9 wz ⟨rfl,hbz⟩;have HBz:=A8 (bel HB6.out hbz);clear hbz));refine bodyPost_ret (by simp[results,results3,go_sem, *];try rfl) rfl ?_;exact⟨by first|rfl|simp,HBz.out⟩
end Go.Proofs.Ytjglaibglofddaa
