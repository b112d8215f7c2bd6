import Derived.Test.YtjglaibglofddaaGre20
import Derived.Deep.DeepCutAuto
import Derived.Test.YtjglaibglofddaaGre19
import Derived.Test.YtjglaibglofddaaGre1
namespace Go.Proofs.Ytjglaibglofddaa
open Go.RowKit Go.Proofs.Try
set_option linter.all false
set_option maxRecDepth 100000
set_option maxHeartbeats 16000000
theorem DV(v0 v1 v2 v3:Value)(c:Cd)(hk:AN c)(w:World)(hv:BU w v0 v1 v2 v3 c):
 Calls prog 8 #[.agg #[v0,v1,v2,v3]] w fun e w'=>e=.returned (.tuple #[.int .i64 (if(Ai c).1=0 then By c else 0),.int .i64 (Ai c).1])/\Below w.heap.size w w':=by
 obtain⟨CV,hCV⟩:∃v,(if(Ai c).1=0 then By c else 0)=v:=⟨_,rfl⟩
 rw[hCV];obtain⟨E,hE⟩:∃e,(Ai c).1=e:=⟨_,rfl⟩
 have HE:=A8 hE;rw[hE]at hCV |-;have HCV:=A8 hCV;clear hCV;obtain⟨X,hX⟩:=gA (w.heap.size)
 obtain⟨W0,hW0⟩:∃W,w.alloc (.cells #[v0,v1,v2,v3] 27)=W:=⟨_,rfl⟩
 have hb0:Below w.heap.size w W0:=by rw[<-hW0];exact A0 _ _
 have x0:W0.cell? ⟨X,0,none⟩=some v0:=by rw[<-hW0,<-hX];simp[go_sem]
 have x1:W0.cell? ⟨X,1,none⟩=some v1:=by rw[<-hW0,<-hX];simp[go_sem]
 have x2:W0.cell? ⟨X,2,none⟩=some v2:=by rw[<-hW0,<-hX];simp[go_sem]
 have x3:W0.cell? ⟨X,3,none⟩=some v3:=by rw[<-hW0,<-hX];simp[go_sem]
 have HAT:Hid (AK W0 X v0 v1 v2 v3 c):=by
  exact Kc
 have KC:=A8 (Ch v0 v1 v2 v3 c hk W0 (hv.below hb0));rw[hE]at KC;have HB0:=A8 hb0;have HW0:=A8 hW0;clear hv hb0 hE hk hW0;go_enter func8,ntmps8;go_upto_region 1 with fail;try rw[HW0.out]
 try rw[hX]
 clear hX;go_upto_region 2 with(go_at_call 19;(with_reducible refine KC.out.mono ?_);rintro e9 w4 ⟨rfl,hb4⟩;have HB4:=A8 hb4;clear hb4)
 have HB:=A8 (bel HB0.out HB4.out);clear x0 x1 x2 x3 KC;by_cases h0:E=0
 .subst h0;have KO:=A8 (D9 X _ _ _ _ c HE.out w4 (HAT.below HB4.out));have HV:Hid (CV=By c):=by show _=_;rw[<-HCV.out,if_pos rfl]
  go_wp2_with(go_at_call 20;(with_reducible refine KO.out.mono ?_);rintro e9 w5 ⟨rfl,hb5⟩;have HB5:=A8 (bel HB.out hb5);clear hb5);refine bodyPost_ret (by simp[results,results8,go_sem, *];try rfl) rfl ?_;exact⟨by rw[HV.out],HB5.out⟩
 .have q1:(E==0)=false:=beq_eq_false_iff_ne.2 h0;have q2:(E != 0)=true:=by simp[h0]
  have HV:Hid (CV=0):=by show _=_;rw[<-HCV.out,if_neg h0]
  have H0:=A8 h0;clear h0;go_wp2_with fail;refine bodyPost_ret (by simp[results,results8,go_sem, *];try rfl) rfl ?_;exact⟨by rw[HV.out],HB.out⟩
theorem GP(v0 v1 v2 v3:Value)(c:Cd)(hk:AN c)(w:World)(hv:BU w v0 v1 v2 v3 c):
 Calls prog 9 #[.agg #[v0,v1,v2,v3]] w fun e w'=>e=.returned (.tuple #[.int .i64 (if(Ai c).1=0 then Bp c else 0),.int .i64 (Ai c).1])/\Below w.heap.size w w':=by
 obtain⟨CV,hCV⟩:∃v,(if(Ai c).1=0 then Bp c else 0)=v:=⟨_,rfl⟩
 rw[hCV];obtain⟨E,hE⟩:∃e,(Ai c).1=e:=⟨_,rfl⟩
 have HE:=A8 hE;rw[hE]at hCV |-;have HCV:=A8 hCV;clear hCV;obtain⟨X,hX⟩:=gA (w.heap.size)
 obtain⟨W0,hW0⟩:∃W,w.alloc (.cells #[v0,v1,v2,v3] 27)=W:=⟨_,rfl⟩
 have hb0:Below w.heap.size w W0:=by rw[<-hW0];exact A0 _ _
 have x0:W0.cell? ⟨X,0,none⟩=some v0:=by rw[<-hW0,<-hX];simp[go_sem]
 have x1:W0.cell? ⟨X,1,none⟩=some v1:=by rw[<-hW0,<-hX];simp[go_sem]
 have x2:W0.cell? ⟨X,2,none⟩=some v2:=by rw[<-hW0,<-hX];simp[go_sem]
 have x3:W0.cell? ⟨X,3,none⟩=some v3:=by rw[<-hW0,<-hX];simp[go_sem]
 have HAT:Hid (AK W0 X v0 v1 v2 v3 c):=by
  exact Kc
 have KC:=A8 (Ch v0 v1 v2 v3 c hk W0 (hv.below hb0));rw[hE]at KC;have HB0:=A8 hb0;have HW0:=A8 hW0;clear hv hb0 hE hk hW0;go_enter func9,ntmps9;go_upto_region 1 with fail;try rw[HW0.out]
 try rw[hX]
 clear hX;go_upto_region 2 with(go_at_call 19;(with_reducible refine KC.out.mono ?_);rintro e9 w4 ⟨rfl,hb4⟩;have HB4:=A8 hb4;clear hb4)
 have HB:=A8 (bel HB0.out HB4.out);clear x0 x1 x2 x3 KC;by_cases h0:E=0
 .subst h0;have KO:=A8 (Da X _ _ _ _ c HE.out w4 (HAT.below HB4.out));have HV:Hid (CV=Bp c):=by show _=_;rw[<-HCV.out,if_pos rfl]
  go_wp2_with(go_at_call 21;(with_reducible refine KO.out.mono ?_);rintro e9 w5 ⟨rfl,hb5⟩;have HB5:=A8 (bel HB.out hb5);clear hb5);refine bodyPost_ret (by simp[results,results9,go_sem, *];try rfl) rfl ?_;exact⟨by rw[HV.out],HB5.out⟩
 .have q1:(E==0)=false:=beq_eq_false_iff_ne.2 h0;have q2:(E != 0)=true:=by simp[h0]
  have HV:Hid (CV=0):=by show _=_;rw[<-HCV.out,if_neg h0]
  have H0:=A8 h0;clear h0;go_wp2_with fail;refine bodyPost_ret (by simp[results,results9,go_sem, *];try rfl) rfl ?_;exact⟨by rw[HV.out],HB.out⟩
theorem Cy(v0 v1 v2 v3:Value)(c:Cd)(hk:AN c)(w:World)(hv:BU w v0 v1 v2 v3 c):
 Calls prog 16 #[.agg #[v0,v1,v2,v3]] w fun e w'=>e=.returned (.int .i64 (Bm c))/\Below w.heap.size w w':=by
 obtain⟨CV,hCV⟩:∃v,Bm c=v:=⟨_,rfl⟩
 rw[hCV];have HCV:=A8 hCV;clear hCV;obtain⟨E,hE⟩:∃e,(Ai c).1=e:=⟨_,rfl⟩
 have HE:=A8 hE;obtain⟨X,hX⟩:=gA (w.heap.size)
 obtain⟨W0,hW0⟩:∃W,w.alloc (.cells #[v0,v1,v2,v3] 27)=W:=⟨_,rfl⟩
 have hb0:Below w.heap.size w W0:=by rw[<-hW0];exact A0 _ _
 have x0:W0.cell? ⟨X,0,none⟩=some v0:=by rw[<-hW0,<-hX];simp[go_sem]
 have x1:W0.cell? ⟨X,1,none⟩=some v1:=by rw[<-hW0,<-hX];simp[go_sem]
 have x2:W0.cell? ⟨X,2,none⟩=some v2:=by rw[<-hW0,<-hX];simp[go_sem]
 have x3:W0.cell? ⟨X,3,none⟩=some v3:=by rw[<-hW0,<-hX];simp[go_sem]
 have HAT:Hid (AK W0 X v0 v1 v2 v3 c):=by
  exact Kc
 have KC:=A8 (Ch v0 v1 v2 v3 c hk W0 (hv.below hb0));rw[hE]at KC;have HB0:=A8 hb0;have HW0:=A8 hW0;clear hv hb0 hE hk hW0;go_enter func16,ntmps16;go_upto_region 1 with fail;try rw[HW0.out]
 try rw[hX]
 clear hX;go_upto_region 2 with(go_at_call 19;(with_reducible refine KC.out.mono ?_);rintro e9 w4 ⟨rfl,hb4⟩;have HB4:=A8 hb4;clear hb4)
 have HB:=A8 (bel HB0.out HB4.out);clear x0 x1 x2 x3 KC;by_cases h0:E=0
 .subst h0;have HV:Hid (Bm c=if 16777216<Bp c then 261 else if 4294967296<By c then 260 else 0):=by show _=_;unfold Bm;rw[if_neg Ko]
  obtain⟨RV,hRV⟩:∃r,Bp c=r:=⟨_,rfl⟩
  obtain⟨CO,hCV⟩:∃r,By c=r:=⟨_,rfl⟩
  have KR:=A8 (Da X _ _ _ _ c HE.out w4 (HAT.below HB4.out));have KO:=A8 (fun(v:World) (h:Below w4.heap.size w4 v)=>D9 X _ _ _ _ c HE.out v ((HAT.below HB4.out).below h));have KJ:=A8 (fun v=>Fu RV CO v);rw[hRV]at KR HV;rw[hCV]at KO HV;obtain⟨JV,hJV⟩:∃r,(if 16777216<RV then 261 else if 4294967296<CO then 260 else 0:Int)=r:=⟨_,rfl⟩
  rw[hJV]at KJ HV;have HVV:Hid (CV=JV):=by show _=_;rw[<-HCV.out,HV.out]
  clear hRV hCV hJV HV;go_wp2_with(first|(go_at_call 21;(with_reducible refine KR.out.mono ?_);rintro e9 w5 ⟨rfl,hb5⟩;have HB5:=A8 hb5;clear hb5)|(go_at_call 20;(with_reducible refine(KO.out _ HB5.out).mono ?_);rintro e9 w6 ⟨rfl,hb6⟩;have HB6:=A8 (bel HB.out (bel HB5.out hb6));clear hb6)|(go_at_call 27;(with_reducible refine(KJ.out _).mono ?_);rintro e9 w7 ⟨rfl,hw7⟩;have hw7:=hw7.symm;subst hw7));refine bodyPost_ret (by simp[results,results16,go_sem, *];try rfl) rfl ?_;exact⟨by rw[HVV.out],HB6.out⟩
 .have q1:(E==0)=false:=beq_eq_false_iff_ne.2 h0;have q2:(E != 0)=true:=by simp[h0]
  have HV:Hid (CV=E):=by show _=_;rw[<-HCV.out];unfold Bm;rw[if_pos (by rw[HE.out];exact h0),HE.out]
  have H0:=A8 h0;clear h0;go_wp2_with fail;refine bodyPost_ret (by simp[results,results16,go_sem, *];try rfl) rfl ?_;exact⟨by rw[HV.out],HB.out⟩
theorem Eb(v0 v1 v2 v3:Value)(c:Cd)(hk:AN c)(at_:Int)(w:World)(hv:BU w v0 v1 v2 v3 c):
 Calls prog 10 #[.agg #[v0,v1,v2,v3],.int .i64 at_] w fun e w'=>e=.returned (.tuple #[.int .i64 (Bb c at_).1,.int .i64 (Bb c at_).2])/\Below w.heap.size w w':=by
 obtain⟨X1,hX1⟩:∃v,(Bb c at_).1=v:=⟨_,rfl⟩
 obtain⟨X2,hX2⟩:∃v,(Bb c at_).2=v:=⟨_,rfl⟩
 rw[hX1,hX2];have HXV:Hid (Bb c at_=(X1,X2)):=by show _=_;rw[<-hX1,<-hX2]
 clear hX1 hX2;obtain⟨E,hE⟩:∃e,(Ai c).1=e:=⟨_,rfl⟩
 have HE:=A8 hE;obtain⟨X,hX⟩:=gA (w.heap.size)
 obtain⟨W0,hW0⟩:∃W,w.alloc (.cells #[v0,v1,v2,v3] 27)=W:=⟨_,rfl⟩
 have hb0:Below w.heap.size w W0:=by rw[<-hW0];exact A0 _ _
 have x0:W0.cell? ⟨X,0,none⟩=some v0:=by rw[<-hW0,<-hX];simp[go_sem]
 have x1:W0.cell? ⟨X,1,none⟩=some v1:=by rw[<-hW0,<-hX];simp[go_sem]
 have x2:W0.cell? ⟨X,2,none⟩=some v2:=by rw[<-hW0,<-hX];simp[go_sem]
 have x3:W0.cell? ⟨X,3,none⟩=some v3:=by rw[<-hW0,<-hX];simp[go_sem]
 have HAT:Hid (AK W0 X v0 v1 v2 v3 c):=by
  exact Kc
 have KC:=A8 (Ch v0 v1 v2 v3 c hk W0 (hv.below hb0));rw[hE]at KC;have HB0:=A8 hb0;have HW0:=A8 hW0;clear hv hb0 hE hk hW0;go_enter func10,ntmps10;go_upto_region 1 with fail;try rw[HW0.out]
 try rw[hX]
 clear hX;go_upto_region 2 with(go_at_call 19;(with_reducible refine KC.out.mono ?_);rintro e9 w4 ⟨rfl,hb4⟩;have HB4:=A8 hb4;clear hb4)
 have HB:=A8 (bel HB0.out HB4.out);clear x0 x1 x2 x3 KC;by_cases h0:E=0
 .subst h0;obtain⟨p3,q3,rfl,-⟩:=id HAT.2.list;have c3:w4.cell? ⟨X,3,none⟩=some (.slice p3 c.list.length q3):=kc HB4.out (HAT.1.at 3 rfl);by_cases hn:at_<0
  .have HV:Hid (Bb c at_=(0,1)):=by show _=_;unfold Bb;rw[if_neg Ko,if_neg (by rw[Ao];omega)]
   have HVV:Hid (((X1,X2):Int×Int)=(0,1)):=by show _=_;rw[<-HXV.out,HV.out]
   clear HV;exact Kz
  .by_cases hm:(c.list.length:Int)<=at_
   .have HV:Hid (Bb c at_=(0,1)):=by show _=_;unfold Bb;rw[if_neg Ko,if_neg (by rw[Ao];omega)]
    have HVV:Hid (((X1,X2):Int×Int)=(0,1)):=by show _=_;rw[<-HXV.out,HV.out]
    obtain⟨L,hL⟩:∃n,c.list.length=n:=⟨_,rfl⟩
    rw[hL]at c3 hm;have hm2:at_≥(L:Int):=hm;clear HV hL;exact Kz
   .obtain⟨k,rfl⟩:∃k:Nat,at_=(k:Int):=⟨at_.toNat,oM⟩
    have hkl:k<c.list.length:=oM;have HV:Hid (Bb c (k:Int)=(B8 c c.list[k],0)):=by
     show _=_;unfold Bb;rw[if_neg Ko,if_pos (Ao.2 ⟨oM,oM⟩),Int.toNat_natCast,gB hkl];rfl
    have HVV:Hid (((X1,X2):Int×Int)=(B8 c c.list[k],0)):=by show _=_;rw[<-HXV.out,HV.out]
    obtain⟨hd,ha⟩:=It HE.out c.list[k] (gD hkl);obtain⟨bb,oo,hpp,hcl⟩:=HAT.2.list.at hkl;have KW:=A8 (DA X bb (oo+k*7) _ _ _ _ c (Ct HE.out).1 c.list[k] hd ha (Dz HE.out) w4 (HAT.below HB4.out) (hcl.below HB4.out));obtain⟨WG,hWG⟩:∃g,B8 c c.list[k]=g:=⟨_,rfl⟩
    rw[hWG]at KW HVV;obtain⟨L,hL⟩:∃n,c.list.length=n:=⟨_,rfl⟩
    rw[hL]at c3 hkl hm;have e1:¬ (k:Int)<0:=oM;have e2:¬ ((k:Int)≥(L:Int)):=oM;have e3:(k:Int)<(L:Int):=oM;have i1:(0:Int)<=(k:Int):=oM;subst hpp;clear HV hL hd ha hcl hWG hn;go_wp2_with(go_at_call 22;(with_reducible refine KW.out.mono ?_);rintro e9 w5 ⟨rfl,hb5⟩;have HB5:=A8 (bel HB.out hb5);clear hb5);refine bodyPost_ret (by simp[results,results10,go_sem, *];try rfl) rfl ?_;exact⟨by rw[(Prod.mk.inj HVV.out).1,(Prod.mk.inj HVV.out).2],HB5.out⟩
 .have q1:(E==0)=false:=beq_eq_false_iff_ne.2 h0;have q2:(E != 0)=true:=by simp[h0]
  have HV:Hid (Bb c at_=(0,E)):=by show _=_;unfold Bb;rw[if_pos (by rw[HE.out];exact h0),HE.out]
  have HVV:Hid (((X1,X2):Int×Int)=(0,E)):=by show _=_;rw[<-HXV.out,HV.out]
  have H0:=A8 h0;clear h0 HV;exact Kz
theorem IY{α:Type}{k:Nat}{f:α->List Value}(hf:∀x,(f x).length=k){l:List α}(w:World)(cs:Array Value)(t:TypeId)(h:cs.toList=AR f l)(c:Nat):Bl k f (w.alloc (.cells cs t)) (.slice (some ⟨w.heap.size,0,none⟩) l.length c) l:=by
 refine⟨_,_,rfl,.inr ⟨w.heap.size,0,rfl,fun i hi j hj=>?_⟩⟩;have hj':j<k:=by rw[<-hf l[i]];exact hj
 have h1:=E0 hf l i j hi hj';rw[<-h]at h1;have h2:cs[0+i*k+j]? =some (f l[i])[j]:=by
  rw[Nat.zero_add,<-Array.getElem?_toList,h1,gB hj]
 have h3:(w.alloc (.cells cs t)).heap[w.heap.size]? =some (.cells cs t (0,0)):=heap_alloc_new w _;unfold World.cell?;simp only[h3];exact h2
theorem CH{α:Type}{k:Nat}{f:α->List Value}(hf:∀x,(f x).length=k){l:List α}(w:World)(cs:Array Value)(t:TypeId)(h:cs.toList=AR f l)(c:Nat){n:Nat}(hn:w.heap.size=n):Bl k f (w.alloc (.cells cs t)) (.slice (some ⟨n,0,none⟩) l.length c) l:=by
 subst hn;exact IY hf w cs t h c
def Ed:Cd:=⟨[⟨⟨#[119]⟩,1,3⟩],[⟨3,0⟩,⟨1,0⟩],[],[⟨29,0,0,0,0,0,0⟩,⟨19,1,0,0,0,0,0⟩,⟨6,0,0,1,0,0,0⟩,⟨31,0,0,0,0,0,0⟩]⟩
theorem EG:(Ai Ed).1=0:=by decide+kernel
theorem G9:AN Ed:=⟨dE,dE,dE,dE,dE,dE,dE⟩
theorem J9:By Ed=12:=by decide+kernel
theorem Ja:Bp Ed=4:=by decide+kernel
theorem Iq:Bb Ed 1=(3,0):=by decide+kernel
theorem GL:Bm Ed=0:=by decide+kernel
def JN:Cd:=⟨[],[],[],[⟨0,0,0,0,0,0,0⟩]⟩
theorem JO:AN JN:=⟨dE,dE,dE,dE,dE,dE,dE⟩
theorem Gi:Bm JN=160:=by decide+kernel
theorem Ft(w:World):Calls prog 26 #[] w fun e w'=>∃a b d,e=.returned (.agg #[.slice (some ⟨a,0,none⟩) 1 1,.slice (some ⟨b,0,none⟩) 2 2,.slice none 0 0,.slice (some ⟨d,0,none⟩) 4 4])/\BU w' (.slice (some ⟨a,0,none⟩) 1 1) (.slice (some ⟨b,0,none⟩) 2 2) (.slice none 0 0) (.slice (some ⟨d,0,none⟩) 4 4) Ed/\Below w.heap.size w w':=by
 go_enter func26,ntmps26;go_wp2;refine bodyPost_ret (by simp[results,results26,go_sem];try rfl) rfl ?_;refine⟨_,_,_,rfl,?_,gG⟩;exact⟨(CH (l:=Ed.sign) Eu _ _ _ rF 1 sM).below (A0 _ _),CH (l:=Ed.regs) Ea _ _ _ rF 2 sM,⟨none,0,rfl,.inl rfl⟩,((CH (l:=Ed.list) De _ _ _ rF 4 sM).below (A0 _ _)).below (A0 _ _)⟩
theorem EM(w:World):Calls prog 15 #[] w fun e w'=>e=.returned (.bool true)/\Below w.heap.size w w':=by
 have KS:=A8 (fun v=>Ft v);have K1:=A8 (fun(v:World) (a0 a1 a2 a3:Value) (h:BU v a0 a1 a2 a3 Ed)=>DV a0 a1 a2 a3 Ed G9 v h);have K2:=A8 (fun(v:World) (a0 a1 a2 a3:Value) (h:BU v a0 a1 a2 a3 Ed)=>GP a0 a1 a2 a3 Ed G9 v h);have K3:=A8 (fun(v:World) (a0 a1 a2 a3:Value) (h:BU v a0 a1 a2 a3 Ed)=>Eb a0 a1 a2 a3 Ed G9 1 v h);have K4:=A8 (fun(v:World) (a0 a1 a2 a3:Value) (h:BU v a0 a1 a2 a3 Ed)=>Cy a0 a1 a2 a3 Ed G9 v h);have K5:=A8 (fun(v:World) (a0 a1 a2 a3:Value) (h:BU v a0 a1 a2 a3 JN)=>Cy a0 a1 a2 a3 JN JO v h);rw[EG,J9,if_pos rfl]at K1;rw[EG,Ja,if_pos rfl]at K2;rw[Iq]at K3;rw[GL]at K4;rw[Gi]at K5;simp only at K3;have K6:Hid (∀v:World,Calls prog 16 #[.agg #[.slice none 0 0,.slice none 0 0,.slice none 0 0,.slice (some ⟨v.heap.size,0,none⟩) 1 1]] (v.alloc (.cells #[.int .i64 0,.int .i64 0,.int .i64 0,.int .i64 0,.int .i64 0,.int .i64 0,.int .u32 0] 53)) fun e w'=>e=.returned (.int .i64 160)/\Below v.heap.size v w'):=fun v=>(K5.out _ _ _ _ _ ⟨⟨none,0,rfl,.inl rfl⟩,⟨none,0,rfl,.inl rfl⟩,⟨none,0,rfl,.inl rfl⟩,CH (l:=JN.list) De v _ _ rF 1 rfl⟩).mono fun e w' ⟨h1,h2⟩=>⟨h1,bel (A0 _ _) h2⟩
 clear K5;go_enter func15,ntmps15;go_upto_region 2 with(first|(go_at_call 26;(with_reducible refine(KS.out _).mono ?_);rintro r9 w1 ⟨a1,b1,d1,rfl,hc1,hb1⟩;have HC1:=A8 hc1;have HB1:=A8 hb1;clear hc1 hb1)|(go_at_call 8;(with_reducible refine(K1.out _ _ _ _ _ HC1.out).mono ?_);rintro r9 w2 ⟨rfl,hb2⟩;have HB2:=A8 (bel HB1.out hb2);clear hb2))
 clear HC1 HB1 K1;go_upto_region 3 with(first|(go_at_call 26;(with_reducible refine(KS.out _).mono ?_);rintro r9 w3 ⟨a1,b1,d1,rfl,hc1,hb1⟩;have HC3:=A8 hc1;have HB3:=A8 (bel HB2.out hb1);clear hc1 hb1)|(go_at_call 9;(with_reducible refine(K2.out _ _ _ _ _ HC3.out).mono ?_);rintro r9 w4 ⟨rfl,hb2⟩;have HB4:=A8 (bel HB3.out hb2);clear hb2))
 clear HC3 HB2 HB3 K2;go_upto_region 4 with(first|(go_at_call 26;(with_reducible refine(KS.out _).mono ?_);rintro r9 w5 ⟨a1,b1,d1,rfl,hc1,hb1⟩;have HC5:=A8 hc1;have HB5:=A8 (bel HB4.out hb1);clear hc1 hb1)|(go_at_call 10;(with_reducible refine(K3.out _ _ _ _ _ HC5.out).mono ?_);rintro r9 w6 ⟨rfl,hb2⟩;have HB6:=A8 (bel HB5.out hb2);clear hb2))
 clear HC5 HB4 HB5 K3;go_wp2_with(first
  |(go_at_call 26;(with_reducible refine(KS.out _).mono ?_);rintro r9 w7 ⟨a1,b1,d1,rfl,hc1,hb1⟩;have HC7:=A8 hc1;have HB7:=A8 (bel HB6.out hb1);clear hc1 hb1)
  |(go_at_call 16;(with_reducible refine(K4.out _ _ _ _ _ HC7.out).mono ?_);rintro r9 w8 ⟨rfl,hb2⟩;have HB8:=A8 (bel HB7.out hb2);clear hb2)
  |(go_at_call 16;(with_reducible refine(K6.out _).mono ?_);rintro r9 w9 ⟨rfl,hb2⟩;have HB9:=A8 (bel HB8.out hb2);clear hb2))
 refine bodyPost_ret (by simp[results,results15,go_sem, *];try rfl) rfl ?_;exact⟨by first|rfl|simp,HB9.out⟩
theorem D4(L:Int)(a0: -9223372036854775808<=L)(b0:L<=9223372036854775807)(R:Int)(a1: -9223372036854775808<=R)(b1:R<=9223372036854775807)(S:Int)(a2: -9223372036854775808<=S)(b2:S<=9223372036854775807)(N:Int)(a3: -9223372036854775808<=N)(b3:N<=9223372036854775807)(K:Int)(a4: -9223372036854775808<=K)(b4:K<=9223372036854775807)(w:World):
 Calls prog 5 #[.agg #[.int .i64 L,.int .i64 R,.int .i64 S,.int .i64 N,.int .i64 K]] w fun e w'=>e=.returned (.bool true)/\Below w.heap.size w w':=by
 have KW:=A8 (fun v=>EM v);have KG:=A8 (fun v=>Gl L R S N K v);obtain⟨X,hX⟩:=gA (w.heap.size)
 obtain⟨W0,hW0⟩:∃W,w.alloc (.cells #[.int .i64 L,.int .i64 R,.int .i64 S,.int .i64 N,.int .i64 K] 43)=W:=⟨_,rfl⟩
 have HB0:Hid (Below w.heap.size w W0):=by show Below _ _ _;rw[<-hW0];exact A0 _ _
 have x0:W0.cell? ⟨X,0,none⟩=some (.int .i64 L):=by rw[<-hW0,<-hX];simp[go_sem]
 have x1:W0.cell? ⟨X,1,none⟩=some (.int .i64 R):=by rw[<-hW0,<-hX];simp[go_sem]
 have x2:W0.cell? ⟨X,2,none⟩=some (.int .i64 S):=by rw[<-hW0,<-hX];simp[go_sem]
 have x3:W0.cell? ⟨X,3,none⟩=some (.int .i64 N):=by rw[<-hW0,<-hX];simp[go_sem]
 have x4:W0.cell? ⟨X,4,none⟩=some (.int .i64 K):=by rw[<-hW0,<-hX];simp[go_sem]
 have HXX:=A8 hX;have HWW:=A8 hW0;clear hX hW0 a0 b0 a1 b1 a2 b2 a3 b3 a4 b4;go_enter func5,ntmps5;go_upto_region 1 with fail;try rw[HXX.out]
 try rw[HWW.out]
 go_upto_region 2 with(go_at_call 18;(with_reducible refine(KG.out _).mono ?_);rintro e9 w3 ⟨t0,t1,t2,t3,c,rfl,ht3,hk3,hb3⟩;obtain⟨p0,q0,rfl,-⟩:=id ht3.sign;obtain⟨p1,q1,rfl,-⟩:=id ht3.regs;obtain⟨p2,q2,rfl,-⟩:=id ht3.slots;obtain⟨p3,q3,rfl,-⟩:=id ht3.list;have HT3:=A8 ht3;have HK3:=A8 hk3;have HB3:=A8 hb3;clear ht3 hk3 hb3)
 clear x0 x1 x2 x3 x4;obtain⟨Z,hZ⟩:=gA (w3.heap.size)
 obtain⟨V,hV⟩:=gA (w3.alloc (.cells #[.slice p0 c.sign.length q0,.slice p1 c.regs.length q1,.slice p2 c.slots.length q2,.slice p3 c.list.length q3] 27))
 have hbV:Below w3.heap.size w3 V:=by rw[<-hV];exact A0 _ _
 have z0:V.cell? ⟨Z,0,none⟩=some (.slice p0 c.sign.length q0):=by rw[<-hV,<-hZ];simp[go_sem]
 have z1:V.cell? ⟨Z,1,none⟩=some (.slice p1 c.regs.length q1):=by rw[<-hV,<-hZ];simp[go_sem]
 have z2:V.cell? ⟨Z,2,none⟩=some (.slice p2 c.slots.length q2):=by rw[<-hV,<-hZ];simp[go_sem]
 have z3:V.cell? ⟨Z,3,none⟩=some (.slice p3 c.list.length q3):=by rw[<-hV,<-hZ];simp[go_sem]
 have hcv:=HT3.below hbV;have HBV:Hid (Below w.heap.size w V):=bel HB0.out (bel HB3.out hbV);have HZ:=A8 (fun(u:World) (h:Below V.heap.size V u)=>(⟨kc h z0,kc h z1,kc h z2,kc h z3⟩:u.cell? ⟨Z,0,none⟩=some (.slice p0 c.sign.length q0)/\u.cell? ⟨Z,1,none⟩=some (.slice p1 c.regs.length q1)/\u.cell? ⟨Z,2,none⟩=some (.slice p2 c.slots.length q2)/\u.cell? ⟨Z,3,none⟩=some (.slice p3 c.list.length q3)));have K1:=A8 (fun(u:World) (h:Below V.heap.size V u)=>DV _ _ _ _ c HK3.out u (hcv.below h));have K2:=A8 (fun(u:World) (h:Below V.heap.size V u)=>Cy _ _ _ _ c HK3.out u (hcv.below h));have R1:=A8 (fun(u:World) (h:Below V.heap.size V u)=>D8 p0 p1 p2 p3 q0 q1 q2 q3 c HK3.out u (hcv.below h));have R2:=A8 (fun(u:World) (h:Below V.heap.size V u)=>Fh p0 p1 p2 p3 q0 q1 q2 q3 c HK3.out u (hcv.below h));obtain⟨A1,hA1⟩:∃a,(if(Ai c).1=0 then By c else 0)=a:=⟨_,rfl⟩
 obtain⟨A2,hA2⟩:∃a,Bm c=a:=⟨_,rfl⟩
 obtain⟨E,hE⟩:∃a,(Ai c).1=a:=⟨_,rfl⟩
 rw[hA1,hE]at K1 R1;rw[hA2]at K2 R2;have HV0:Hid (Below V.heap.size V V):=Below.refl _ _;try rw[hV]
 try rw[hZ]
 clear hV hZ hbV hcv HT3 HB3 hA1 hA2 hE;go_upto_region 3 with(go_at_call 8;(with_reducible refine(K1.out _ HV0.out).mono ?_);rintro e9 wq ⟨rfl,hb⟩;have HB2:=A8 (bel HV0.out hb);clear hb)
 clear z0 z1 z2 z3;obtain⟨z0,z1,z2,z3⟩:=HZ.out _ HB2.out;go_upto_region 4 with(go_at_call 11;(with_reducible refine(R1.out _ HB2.out).mono ?_);rintro e9 w4 ⟨rfl,hb⟩;have HB4:=A8 (bel HB2.out hb);clear hb)
 clear z0 z1 z2 z3;obtain⟨z0,z1,z2,z3⟩:=HZ.out _ HB4.out;refine rG (fun v=>v.cell? ⟨Z,0,none⟩=some (.slice p0 c.sign.length q0)/\v.cell? ⟨Z,1,none⟩=some (.slice p1 c.regs.length q1)/\v.cell? ⟨Z,2,none⟩=some (.slice p2 c.slots.length q2)/\v.cell? ⟨Z,3,none⟩=some (.slice p3 c.list.length q3)) fun hJ=>?_;refine wpAnyH_take (i:=0) (v:=?_) A5 kR kR kR A6 (Or.inl ⟨rF,?_⟩) A7 ?_
 rotate_left 1
 ·(intro wS hSw;(try dsimp only at hSw);go_simp;try(with_reducible rfl))
 try simp only[Act.put,List.setIfInBounds_toArray,List.set_cons_zero,List.set_cons_succ]
 refine wpAnyH_take (i:=2) (v:=?_) A5 kR kR kR A6 (Or.inl ⟨rF,?_⟩) A7 ?_
 rotate_left 1
 ·(intro wS hSw;(try dsimp only at hSw);go_simp;try(with_reducible rfl))
 try simp only[Act.put,List.setIfInBounds_toArray,List.set_cons_zero,List.set_cons_succ]
 clear hJ;refine AO 1 fun K hK=>?_;go_simp;(go_at_call 16;(with_reducible refine(K2.out _ (bel HB4.out (Aa _))).mono ?_);rintro e9 w5 ⟨rfl,hb⟩;have HB5:=A8 (bel HB4.out (bel (Aa _) hb));clear hb;obtain⟨y20,y21,y22,y23⟩:=HZ.out _ HB5.out);try(go_wp2_with fail)
 refine AP hK fun hJ=>?_;clear hK K;clear hJ;refine AO 3 fun K hK=>?_;go_simp;(go_at_call 17;(with_reducible refine(R2.out _ HB5.out).mono ?_);rintro e9 w6 ⟨rfl,hb⟩;have HB6:=A8 (bel HB5.out hb);clear hb;obtain⟨y30,y31,y32,y33⟩:=HZ.out _ HB6.out);try(go_wp2_with fail)
 refine AP hK fun hJ=>?_;clear hK K;refine wpAnyH_take (i:=4) (v:=?_) A5 kR kR kR A6 (Or.inl ⟨rF,?_⟩) A7 ?_
 rotate_left 1
 ·(intro wS hSw;(try dsimp only at hSw);go_simp;try(with_reducible rfl))
 try simp only[Act.put,List.setIfInBounds_toArray,List.set_cons_zero,List.set_cons_succ]
 refine wpAnyH_take (i:=5) (v:=?_) A5 kR kR kR A6 (Or.inl ⟨rF,?_⟩) A7 ?_
 rotate_left 1
 ·(intro wS hSw;(try dsimp only at hSw);go_simp;try(with_reducible rfl))
 try simp only[Act.put,List.setIfInBounds_toArray,List.set_cons_zero,List.set_cons_succ]
 refine wpAnyH_take (i:=6) (v:=?_) A5 kR kR kR A6 (Or.inl ⟨rF,?_⟩) A7 ?_
 rotate_left 1
 ·(intro wS hSw;(try dsimp only at hSw);go_simp;try(with_reducible rfl))
 try simp only[Act.put,List.setIfInBounds_toArray,List.set_cons_zero,List.set_cons_succ]
 refine wpAnyH_take (i:=7) (v:=?_) A5 kR kR kR A6 (Or.inl ⟨rF,?_⟩) A7 ?_
 rotate_left 1
 ·(intro wS hSw;(try dsimp only at hSw);go_simp;try(with_reducible rfl))
 try simp only[Act.put,List.setIfInBounds_toArray,List.set_cons_zero,List.set_cons_succ]
 refine wpAnyH_take (i:=8) (v:=?_) A5 kR kR kR A6 (Or.inl ⟨rF,?_⟩) A7 ?_
 rotate_left 1
 ·(intro wS hSw;(try dsimp only at hSw);go_simp;try(with_reducible rfl))
 try simp only[Act.put,List.setIfInBounds_toArray,List.set_cons_zero,List.set_cons_succ]
 refine wpAnyH_take (i:=9) (v:=?_) A5 kR kR kR A6 (Or.inl ⟨rF,?_⟩) A7 ?_
 rotate_left 1
 ·(intro wS hSw;(try dsimp only at hSw);go_simp;try(with_reducible rfl))
 try simp only[Act.put,List.setIfInBounds_toArray,List.set_cons_zero,List.set_cons_succ]
 refine wpAnyH_take (i:=10) (v:=?_) A5 kR kR kR A6 (Or.inl ⟨rF,?_⟩) A7 ?_
 rotate_left 1
 ·(intro wS hSw;(try dsimp only at hSw);go_simp;try(with_reducible rfl))
 try simp only[Act.put,List.setIfInBounds_toArray,List.set_cons_zero,List.set_cons_succ]
 refine wpAnyH_take (i:=11) (v:=?_) A5 kR kR kR A6 (Or.inl ⟨rF,?_⟩) A7 ?_
 rotate_left 1
 ·(intro wS hSw;(try dsimp only at hSw);go_simp;try(with_reducible rfl))
 try simp only[Act.put,List.setIfInBounds_toArray,List.set_cons_zero,List.set_cons_succ]
 refine wpAnyH_take (i:=12) (v:=?_) A5 kR kR kR A6 (Or.inl ⟨rF,?_⟩) A7 ?_
 rotate_left 1
 ·(intro wS hSw;(try dsimp only at hSw);go_simp;try(with_reducible rfl))
 try simp only[Act.put,List.setIfInBounds_toArray,List.set_cons_zero,List.set_cons_succ]
 refine wpAnyH_take (i:=13) (v:=?_) A5 kR kR kR A6 (Or.inl ⟨rF,?_⟩) A7 ?_
 rotate_left 1
 ·(intro wS hSw;(try dsimp only at hSw);go_simp;try(with_reducible rfl))
 try simp only[Act.put,List.setIfInBounds_toArray,List.set_cons_zero,List.set_cons_succ]
 refine wpAnyH_take (i:=14) (v:=?_) A5 kR kR kR A6 (Or.inl ⟨rF,?_⟩) A7 ?_
 rotate_left 1
 ·(intro wS hSw;(try dsimp only at hSw);go_simp;try(with_reducible rfl))
 try simp only[Act.put,List.setIfInBounds_toArray,List.set_cons_zero,List.set_cons_succ]
 refine wpAnyH_take (i:=15) (v:=?_) A5 kR kR kR A6 (Or.inl ⟨rF,?_⟩) A7 ?_
 rotate_left 1
 ·(intro wS hSw;(try dsimp only at hSw);go_simp;try(with_reducible rfl))
 try simp only[Act.put,List.setIfInBounds_toArray,List.set_cons_zero,List.set_cons_succ]
 clear hJ;refine AO 16 fun K hK=>?_;go_simp;(go_at_call 15;(with_reducible refine(KW.out _).mono ?_);rintro e9 w7 ⟨rfl,hb⟩;have HB7:=A8 (bel HB6.out hb);clear hb;obtain⟨y40,y41,y42,y43⟩:=HZ.out _ HB7.out);try(go_wp2_with fail)
 refine AP hK fun hJ=>?_;clear hK K;refine wpAnyH_take (i:=17) (v:=?_) A5 kR kR kR A6 (Or.inl ⟨rF,?_⟩) A7 ?_
 rotate_left 1
 ·(intro wS hSw;(try dsimp only at hSw);go_simp;try(with_reducible rfl))
 try simp only[Act.put,List.setIfInBounds_toArray,List.set_cons_zero,List.set_cons_succ]
 refine wpAnyH_take (i:=18) (v:=?_) A5 kR kR kR A6 (Or.inl ⟨rF,?_⟩) A7 ?_
 rotate_left 1
 ·(intro wS hSw;(try dsimp only at hSw);go_simp;try(with_reducible rfl))
 try simp only[Act.put,List.setIfInBounds_toArray,List.set_cons_zero,List.set_cons_succ]
 refine wpAnyH_done kR ?_ _;go_wp2_with fail;refine bodyPost_ret (by simp[results,results5,go_sem, *];try rfl) rfl ?_;exact⟨by first|rfl|simp,HBV.trans (HB7.mono HBV.size)⟩
end Go.Proofs.Ytjglaibglofddaa
