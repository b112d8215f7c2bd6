import Derived.Test.YtheanilpbnencaaGreatSpe7
import Derived.Test.YtheanilpbnencaaGreatSpe18
import Derived.Deep.DeepCutAuto
import Derived.Test.YtheanilpbnencaaGreatSpe13
import Derived.Test.YtheanilpbnencaaGreatSpe1
import Derived.Test.YtheanilpbnencaaGreatSpe9
namespace Go.Proofs.YtheanilpbnencaaGreat
open Go.RowKit Go.Proofs.Tryz
set_option linter.all false
set_option maxRecDepth 100000
set_option maxHeartbeats 16000000


theorem Of(c:Cd):∀ (l:List Am) (s:Wk),Ca c s l=true->∀i∈l,∃s',Tk c s' i
 |[],s,_,i,hi=>by cases hi
 |j::l,s,h,i,hi=>by
  simp only[Ca,Bool.and_eq_true]at h;rcases List.mem_cons.1 hi with e|e
  .rw[e];exact⟨s,Sn.1 h.1⟩
  .exact Of c l _ h.2 i e
theorem UY{c:Cd}(hc:(Ag c).1=0):∀i∈c.list,((As i.op=true\/i.op=29\/i.op=30\/i.op=32)->Ab i.d c.regs.length=true)/\((i.op=31\/i.op=33\/i.op=19\/i.op=20)->Ab i.a c.regs.length=true):=fun i hi=>by
 obtain⟨h1,h2,h3⟩:=BF.1 hc;obtain⟨s,h⟩:=Of c c.list _ h2 i hi;obtain⟨N,hN⟩:∃N:Nat,i.op=(N:Int):=⟨i.op.toNat,by have:=h.known;omega⟩
 have hN2:N<38:=by have:=h.known;omega
 exact⟨fun q=>Jh h.d (by rw[hN]at q |-;exact RC N hN2 q),fun q=>Jh h.a (by rw[hN]at q |-;exact Rz N hN2 q)⟩
theorem Jt{c:Cd}(hc:(Ag c).1=0):c.sign.length<=1000000/\c.list.length<=32768:=by
 have hA:=Fm.1 (BF.1 hc).1;refine⟨?_,hA.list⟩;have h:=hA.sign;unfold Ay at h;split at h
 .exact absurd h dE
 .omega
theorem Qa{c:Cd}{l:List Am}{k:Nat}(h:k<l.length):Bw c (l.take (k+1))=Bw c (l.take k)+CI c l[k]:=by
 rw[List.take_succ_eq_append_getElem h,Iz];simp[Bw]
theorem UF{c:Cd}(hc:(Ag c).1=0)(k:Nat):0<=Bw c (c.list.take k)/\Bw c (c.list.take k)<=4096*(k:Int):=by
 have h:=Ha (c:=c) (c.list.take k) (fun i hi=>DK hc i (List.mem_of_mem_take hi));have hl:(c.list.take k).length<=k:=by rw[List.length_take];omega
 omega
def C9(ps:List Bd):List Ty->Int
 |[]=>0
 |t::l=>DM ps t+C9 ps l
theorem Lk(ps:List Bd):∀l m:List Ty,C9 ps (l++m)=C9 ps l+C9 ps m
 |[],m=>by simp[C9]
 |t::l,m=>by simp only[List.cons_append,C9,Lk ps l m];omega
theorem Ic(ps:List Bd):∀l:List Ty,(l.map fun t=>DM ps t).sum=C9 ps l
 |[]=>rfl
 |t::l=>by simp[C9,Ic ps l]
theorem Pe(c:Cd):EM c=C9 c.sign c.regs+C9 c.sign (c.slots.map fun s=>s.ty):=by
 unfold EM;rw[Ic,<-Ic c.sign (c.slots.map fun s=>s.ty),List.map_map];rfl
theorem Oc{ps:List Bd}{l:List Ty}{k:Nat}(h:k<l.length):C9 ps (l.take (k+1))=C9 ps (l.take k)+DM ps l[k]:=by
 rw[List.take_succ_eq_append_getElem h,Lk];simp[C9]
theorem Od{ps:List Bd}:∀l:List Ty,(∀t∈l,1<=DM ps t/\DM ps t<=4096)->0<=C9 ps l/\C9 ps l<=4096*(l.length:Int)
 |[],_=>by simp[C9]
 |t::l,h=>by
  have h1:=h t sM;have h2:=Od l (fun j hj=>h j (List.mem_cons_of_mem _ hj));simp only[C9,List.length_cons];omega
theorem I0{c:Cd}(hc:(Ag c).1=0):∀t∈c.regs,1<=DM c.sign t/\DM c.sign t<=4096:=fun t ht=>by
 have hA:=Fm.1 (BF.1 hc).1;exact JM hA.sign (List.all_eq_true.1 hA.types t ht)
theorem J1{c:Cd}(hc:(Ag c).1=0):∀t∈c.slots.map (fun s=>s.ty),1<=DM c.sign t/\DM c.sign t<=4096:=fun t ht=>by
 have hA:=Fm.1 (BF.1 hc).1;obtain⟨s,hs,rfl⟩:=List.mem_map.1 ht;have h:=List.all_eq_true.1 hA.begun s hs;unfold AG at h;simp only[Bool.and_eq_true]at h;exact JM hA.sign h.1
theorem Mu{ps:List Bd}{l:List Ty}{k n:Nat}(h:∀t∈l,1<=DM ps t/\DM ps t<=4096)(hn:l.length<=n):0<=C9 ps (l.take k)/\C9 ps (l.take k)<=4096*(n:Int):=by
 have h1:=Od (l.take k) (fun t ht=>h t (List.mem_of_mem_take ht));have hl:(l.take k).length<=n:=by rw[List.length_take];omega
 omega
def Cb(c:Cd)(at_:Int):Int×Int:=if(Ag c).1≠0 then(0,(Ag c).1)else if Ab at_ c.list.length=true then(((c.list[at_.toNat]?).map (CI c)).getD 0,0)else(0,1)
def Fp(c:Cd):Int:=if(Ag c).1≠0 then(Ag c).1 else if 16777216<EM c then 261 else if 4294967296<Ed c then 260 else 0
theorem Cx(C:Nat)(v0 v1 v2 v3:Value)(c:Cd)(hsl:c.sign.length<=1000000)(t:Ty)(ht:t.kind=3->Ab t.par c.sign.length=true)(w:World)(hat:B7 w C v0 v1 v2 v3 c):
 Calls prog 54 #[.pointer (some ⟨C,0,none⟩),.agg #[.int .i64 t.kind,.int .i64 t.par]] w fun e w'=>e=.returned (.int .i64 (DM c.sign t))/\Below w.heap.size w w':=by
 obtain⟨kd,pr⟩:=t;have c0:w.cell? ⟨C,0,none⟩=some v0:=hat.1.at 0 rfl;have hv:=hat.2.sign;have HBN:Hid (C<w.heap.size):=A3 c0;have nC:¬C=w.heap.size:=by have:=HBN.out;omega
 by_cases hk:kd=3
 .have k1:(kd != 3)=false:=by simp[hk]
  have k2:(kd==3)=true:=by simp[hk]
  have hp:=AR.1 (ht hk);obtain⟨P,rfl⟩:=Int.eq_ofNat_of_zero_le (show 0<=pr from hp.1);have hPl:P<c.sign.length:=by have:=hp.2;simp only at this;omega
  have HV:Hid (DM c.sign ⟨kd,(P:Int)⟩=c.sign[P].len):=by
   show _=_;unfold DM;rw[if_neg (by simp[hk]),if_pos (ht hk),show(⟨kd,(P:Int)⟩:Ty).par.toNat=P from Int.toNat_natCast P,gB hPl];rfl
  rw[HV.out];obtain⟨p0,q0,rfl,-⟩:=id hv;obtain⟨b,o,rfl,hcl⟩:=hv.at hPl;have y2:w.cell? ⟨b,o+P*3+2,none⟩=some (.int .i64 c.sign[P].len):=hcl.at 2 (v:=.int .i64 c.sign[P].len) rfl;have lb:b<w.heap.size:=A3 y2;have nb:¬b=w.heap.size:=oM;obtain⟨N,hN⟩:=gA (c.sign.length)
  rw[hN]at c0;have i1:¬ ((P:Int)<0):=oM;have i2:¬ ((N:Int)<=(P:Int)):=oM;have i3:(P:Int)<(N:Int):=oM;have i4:(0:Int)<=(P:Int):=oM;have i5:P<N:=oM;obtain⟨LN,hLN⟩:∃n,c.sign[P].len=n:=⟨_,rfl⟩
  rw[hLN]at y2;rw[hLN];obtain⟨B,hB⟩:∃n,w.heap.size=n:=⟨_,rfl⟩
  subst hk;obtain⟨W1,hW1⟩:∃W,w.alloc (.cells #[.int .i64 3,.int .i64 (P:Int)] 63)=W:=⟨_,rfl⟩
  have hb1:Below w.heap.size w W1:=by rw[<-hW1];exact A0 _ _
  have c1:=kc hb1 c0;have y3:=kc hb1 y2;have z0:W1.cell? ⟨B,0,none⟩=some (.int .i64 3):=by rw[<-hW1,<-hB];simp[go_sem]
  have z1:W1.cell? ⟨B,1,none⟩=some (.int .i64 (P:Int)):=by rw[<-hW1,<-hB];simp[go_sem]
  have HB1:=Aa hb1;have HBB:=Aa hB;clear hv hcl hN hp ht hat hsl hb1 hLN HV c0 y2;go_enter func54,ntmps54;go_upto_region 2 with fail;try rw[hW1]
  try rw[hB]
  clear hW1 hB;refine rG (fun v=>v.cell? ⟨C,0,none⟩=some (.slice (some ⟨b,o,none⟩) N q0)/\v.cell? ⟨B,1,none⟩=some (.int .i64 (P:Int))/\v.cell? ⟨b,o+P*3+2,none⟩=some (.int .i64 LN)) fun hJ=>?_;refine Tf 0 1 2 3 4 5 ?_;refine Tc 6 7 8 ?_;refine Bm 9 ?_;refine wpAnyH_done kR ?_ _;go_wp2_with fail;go_ret;exact⟨rfl,HB1.drew⟩
 .have k1:(kd != 3)=true:=by simp[hk]
  have k2:(kd==3)=false:=by simp[hk]
  have HV:Hid (DM c.sign ⟨kd,pr⟩=1):=by show _=_;unfold DM;rw[if_pos hk]
  rw[HV.out];clear hv hat ht;go_enter func54,ntmps54;go_wp2;go_ret;exact⟨rfl,A0 _ _⟩
theorem MX(r k:Int)(w:World):
 Calls prog 26 #[.int .i64 r,.int .i64 k] w fun e w'=>e=.returned (.int .i64 (if 16777216<r then 261 else if 4294967296<k then 260 else 0))/\w'=w:=by
 by_cases h1:16777216<r
 .rw[if_pos h1];exact XM
 .rw[if_neg h1];have h1b:¬ (r>16777216):=h1;by_cases h2:4294967296<k
  .rw[if_pos h2];exact XM
  .rw[if_neg h2];have h2b:¬ (k>4294967296):=h2;exact XM
theorem Ii(C B O:Nat)(v0 v1 v2 v3:Value)(c:Cd)(hsl:c.sign.length<=1000000)(x:Am)(hd:(As x.op=true\/x.op=29\/x.op=30\/x.op=32)->Ab x.d c.regs.length=true)(ha:(x.op=31\/x.op=33\/x.op=19\/x.op=20)->Ab x.a c.regs.length=true)(hty:∀t∈c.regs,t.kind=3->Ab t.par c.sign.length=true)(w:World)(hat:B7 w C v0 v1 v2 v3 c)(hx:Ai w B O (EW x)):
 Calls prog 24 #[.pointer (some ⟨C,0,none⟩),.pointer (some ⟨B,O,none⟩)] w fun e w'=>e=.returned (.int .i64 (CI c x))/\Below w.heap.size w w':=by
 obtain⟨op,d,a,b,cc,n,bits⟩:=x;have x0:w.cell? ⟨B,O,none⟩=some (.int .i64 op):=hx.at 0 rfl;have x1:w.cell? ⟨B,O+1,none⟩=some (.int .i64 d):=hx.at 1 rfl;have x2:w.cell? ⟨B,O+2,none⟩=some (.int .i64 a):=hx.at 2 rfl;have HB0:Hid (Below w.heap.size w w):=Below.refl _ _;have KE:Hid (∀v,Calls prog 53 #[.int .i64 op] v fun e w'=>e=.returned (.bool (As op))/\w'=v):=fun v=>Ee op v;simp only at hd ha;obtain⟨EP,hEP⟩:∃b,As op=b:=⟨_,rfl⟩
 rw[hEP]at KE hd;clear hx;by_cases hE:EP=true
 ·--{10
  rw[hE]at KE;have h5:EP=true\/op=29\/op=30\/op=32:=.inl hE;have h6:(As op=true\/op=29\/op=30\/op=32):=by rw[hEP];exact h5
  have h16:¬op=16:=by rintro rfl;rw[hE]at hEP;exact absurd hEP dE
  have hin:=hd h5;obtain⟨R,rfl⟩:∃R:Nat,d=(R:Int):=⟨d.toNat,by have:=AR.1 hin;omega⟩
  have hR:R<c.regs.length:=by have:=AR.1 hin;omega
  have HV:Hid (CI c ⟨op,(R:Int),a,b,cc,n,bits⟩=DM c.sign c.regs[R]):=by
   show _=_;unfold CI;rw[if_neg h16,if_pos h6];exact UP
  rw[HV.out];obtain⟨p1,q1,rfl,-⟩:=id hat.2.regs;have hat0:=hat;obtain⟨bb,oo,hpp,hcl⟩:=hat.2.regs.at hR;have KW:=Aa (fun(v:World) (h:Below w.heap.size w v)=>Cx C _ _ _ _ c hsl c.regs[R] (hty _ (gD hR)) v (hat0.below h));have c1:w.cell? ⟨C,1,none⟩=some (.slice p1 c.regs.length q1):=hat.1.at 1 rfl;have t0:w.cell? ⟨bb,oo+R*2,none⟩=some (.int .i64 c.regs[R].kind):=hcl.at 0 (v:=.int .i64 c.regs[R].kind) rfl;have t1:w.cell? ⟨bb,oo+R*2+1,none⟩=some (.int .i64 c.regs[R].par):=hcl.at 1 (v:=.int .i64 c.regs[R].par) rfl;have KWW:=Aa (KW.out w.drew (A4 _));obtain⟨TY,hTY⟩:∃t,c.regs[R]=t:=⟨_,rfl⟩
  rw[hTY]at t0 t1 KWW;rw[hTY];obtain⟨RL,hRL⟩:∃n,c.regs.length=n:=⟨_,rfl⟩
  rw[hRL]at c1 hR;have i1:(0:Int)<=(R:Int):=oM;have i2:(R:Int)<(RL:Int):=oM;have HBWW:=Aa (A4 w);subst hpp;clear hin hcl KW hTY HV hd ha hEP hat hat0 hRL hty h5 h6 h16 hE;go_enter func24,ntmps24;go_upto_region 2 with(go_at_call 53;(with_reducible refine(KE.out _).mono ?_);rintro r9 w8 ⟨rfl,hw8⟩;have hw8:=hw8.symm;subst hw8)
  exact WW
 .have hE2:EP=false:=by simpa using hE
  rw[hE2]at KE;by_cases h16:op=16
  .have q16:(op==16)=true:=by simp[h16]
   have HV:Hid (CI c ⟨op,d,a,b,cc,n,bits⟩=62):=by show _=_;unfold CI;rw[if_pos h16]
   rw[HV.out];clear hd ha hEP hat h16 hE2 hE hty;exact YG
  .have q16:(op==16)=false:=by simp[h16]
   by_cases h29:op=29
   .have q29:(op==29)=true:=by simp[h29]
    have h5:EP=true\/op=29\/op=30\/op=32:=.inr (.inl h29);have h6:(As op=true\/op=29\/op=30\/op=32):=by rw[hEP];exact h5
    have hin:=hd h5;obtain⟨R,rfl⟩:∃R:Nat,d=(R:Int):=⟨d.toNat,by have:=AR.1 hin;omega⟩
    have hR:R<c.regs.length:=by have:=AR.1 hin;omega
    have HV:Hid (CI c ⟨op,(R:Int),a,b,cc,n,bits⟩=DM c.sign c.regs[R]):=by
     show _=_;unfold CI;rw[if_neg h16,if_pos h6];exact UP
    rw[HV.out];obtain⟨p1,q1,rfl,-⟩:=id hat.2.regs;have hat0:=hat;obtain⟨bb,oo,hpp,hcl⟩:=hat.2.regs.at hR;have KW:=Aa (fun(v:World) (h:Below w.heap.size w v)=>Cx C _ _ _ _ c hsl c.regs[R] (hty _ (gD hR)) v (hat0.below h));have c1:w.cell? ⟨C,1,none⟩=some (.slice p1 c.regs.length q1):=hat.1.at 1 rfl;have t0:w.cell? ⟨bb,oo+R*2,none⟩=some (.int .i64 c.regs[R].kind):=hcl.at 0 (v:=.int .i64 c.regs[R].kind) rfl;have t1:w.cell? ⟨bb,oo+R*2+1,none⟩=some (.int .i64 c.regs[R].par):=hcl.at 1 (v:=.int .i64 c.regs[R].par) rfl;have KWW:=Aa (KW.out w.drew (A4 _));obtain⟨TY,hTY⟩:∃t,c.regs[R]=t:=⟨_,rfl⟩
    rw[hTY]at t0 t1 KWW;rw[hTY];obtain⟨RL,hRL⟩:∃n,c.regs.length=n:=⟨_,rfl⟩
    rw[hRL]at c1 hR;have i1:(0:Int)<=(R:Int):=oM;have i2:(R:Int)<(RL:Int):=oM;have HBWW:=Aa (A4 w);subst hpp;clear hin hcl KW hTY HV hd ha hEP hat hat0 hRL hty h5 h6 h16 hE2 hE h29;go_enter func24,ntmps24;go_upto_region 9 with(go_at_call 53;(with_reducible refine(KE.out _).mono ?_);rintro r9 w8 ⟨rfl,hw8⟩;have hw8:=hw8.symm;subst hw8)
    exact WW
   .have q29:(op==29)=false:=by simp[h29]
    by_cases h30:op=30
    .have q30:(op==30)=true:=by simp[h30]
     have h5:EP=true\/op=29\/op=30\/op=32:=.inr (.inr (.inl h30));have h6:(As op=true\/op=29\/op=30\/op=32):=by rw[hEP];exact h5
     have hin:=hd h5;obtain⟨R,rfl⟩:∃R:Nat,d=(R:Int):=⟨d.toNat,by have:=AR.1 hin;omega⟩
     have hR:R<c.regs.length:=by have:=AR.1 hin;omega
     have HV:Hid (CI c ⟨op,(R:Int),a,b,cc,n,bits⟩=DM c.sign c.regs[R]):=by
      show _=_;unfold CI;rw[if_neg h16,if_pos h6];exact UP
     rw[HV.out];obtain⟨p1,q1,rfl,-⟩:=id hat.2.regs;have hat0:=hat;obtain⟨bb,oo,hpp,hcl⟩:=hat.2.regs.at hR;have KW:=Aa (fun(v:World) (h:Below w.heap.size w v)=>Cx C _ _ _ _ c hsl c.regs[R] (hty _ (gD hR)) v (hat0.below h));have c1:w.cell? ⟨C,1,none⟩=some (.slice p1 c.regs.length q1):=hat.1.at 1 rfl;have t0:w.cell? ⟨bb,oo+R*2,none⟩=some (.int .i64 c.regs[R].kind):=hcl.at 0 (v:=.int .i64 c.regs[R].kind) rfl;have t1:w.cell? ⟨bb,oo+R*2+1,none⟩=some (.int .i64 c.regs[R].par):=hcl.at 1 (v:=.int .i64 c.regs[R].par) rfl;have KWW:=Aa (KW.out w.drew (A4 _));obtain⟨TY,hTY⟩:∃t,c.regs[R]=t:=⟨_,rfl⟩
     rw[hTY]at t0 t1 KWW;rw[hTY];obtain⟨RL,hRL⟩:∃n,c.regs.length=n:=⟨_,rfl⟩
     rw[hRL]at c1 hR;have i1:(0:Int)<=(R:Int):=oM;have i2:(R:Int)<(RL:Int):=oM;have HBWW:=Aa (A4 w);subst hpp;clear hin hcl KW hTY HV hd ha hEP hat hat0 hRL hty h5 h6 h16 hE2 hE h29 h30;go_enter func24,ntmps24;go_upto_region 9 with(go_at_call 53;(with_reducible refine(KE.out _).mono ?_);rintro r9 w8 ⟨rfl,hw8⟩;have hw8:=hw8.symm;subst hw8)
     exact WW
    .have q30:(op==30)=false:=by simp[h30]
     by_cases h32:op=32
     .have q32:(op==32)=true:=by simp[h32]
      have h5:EP=true\/op=29\/op=30\/op=32:=.inr (.inr (.inr h32));have h6:(As op=true\/op=29\/op=30\/op=32):=by rw[hEP];exact h5
      have hin:=hd h5;obtain⟨R,rfl⟩:∃R:Nat,d=(R:Int):=⟨d.toNat,by have:=AR.1 hin;omega⟩
      have hR:R<c.regs.length:=by have:=AR.1 hin;omega
      have HV:Hid (CI c ⟨op,(R:Int),a,b,cc,n,bits⟩=DM c.sign c.regs[R]):=by
       show _=_;unfold CI;rw[if_neg h16,if_pos h6];exact UP
      rw[HV.out];obtain⟨p1,q1,rfl,-⟩:=id hat.2.regs;have hat0:=hat;obtain⟨bb,oo,hpp,hcl⟩:=hat.2.regs.at hR;have KW:=Aa (fun(v:World) (h:Below w.heap.size w v)=>Cx C _ _ _ _ c hsl c.regs[R] (hty _ (gD hR)) v (hat0.below h));have c1:w.cell? ⟨C,1,none⟩=some (.slice p1 c.regs.length q1):=hat.1.at 1 rfl;have t0:w.cell? ⟨bb,oo+R*2,none⟩=some (.int .i64 c.regs[R].kind):=hcl.at 0 (v:=.int .i64 c.regs[R].kind) rfl;have t1:w.cell? ⟨bb,oo+R*2+1,none⟩=some (.int .i64 c.regs[R].par):=hcl.at 1 (v:=.int .i64 c.regs[R].par) rfl;have KWW:=Aa (KW.out w.drew (A4 _));obtain⟨TY,hTY⟩:∃t,c.regs[R]=t:=⟨_,rfl⟩
      rw[hTY]at t0 t1 KWW;rw[hTY];obtain⟨RL,hRL⟩:∃n,c.regs.length=n:=⟨_,rfl⟩
      rw[hRL]at c1 hR;have i1:(0:Int)<=(R:Int):=oM;have i2:(R:Int)<(RL:Int):=oM;have HBWW:=Aa (A4 w);subst hpp;clear hin hcl KW hTY HV hd ha hEP hat hat0 hRL hty h5 h6 h16 hE2 hE h29 h30 h32;go_enter func24,ntmps24;go_upto_region 9 with(go_at_call 53;(with_reducible refine(KE.out _).mono ?_);rintro r9 w8 ⟨rfl,hw8⟩;have hw8:=hw8.symm;subst hw8)
      exact WW
     .have q32:(op==32)=false:=by simp[h32]
      by_cases h31:op=31
      .have q31:(op==31)=true:=by simp[h31]
       have h6:¬ (As op=true\/op=29\/op=30\/op=32):=by rw[hEP,hE2];simp[h29,h30,h32]
       have h5:op=31\/op=33\/op=19\/op=20:=.inl h31;have hin:=ha h5;obtain⟨R,rfl⟩:∃R:Nat,a=(R:Int):=⟨a.toNat,by have:=AR.1 hin;omega⟩
       have hR:R<c.regs.length:=by have:=AR.1 hin;omega
       have HV:Hid (CI c ⟨op,d,(R:Int),b,cc,n,bits⟩=DM c.sign c.regs[R]):=by
        show _=_;unfold CI;rw[if_neg h16,if_neg h6,if_pos h5];exact UP
       rw[HV.out];obtain⟨p1,q1,rfl,-⟩:=id hat.2.regs;have hat0:=hat;obtain⟨bb,oo,hpp,hcl⟩:=hat.2.regs.at hR;have KW:=Aa (fun(v:World) (h:Below w.heap.size w v)=>Cx C _ _ _ _ c hsl c.regs[R] (hty _ (gD hR)) v (hat0.below h));have c1:w.cell? ⟨C,1,none⟩=some (.slice p1 c.regs.length q1):=hat.1.at 1 rfl;have t0:w.cell? ⟨bb,oo+R*2,none⟩=some (.int .i64 c.regs[R].kind):=hcl.at 0 (v:=.int .i64 c.regs[R].kind) rfl;have t1:w.cell? ⟨bb,oo+R*2+1,none⟩=some (.int .i64 c.regs[R].par):=hcl.at 1 (v:=.int .i64 c.regs[R].par) rfl;have KWW:=Aa (KW.out w.drew (A4 _));obtain⟨TY,hTY⟩:∃t,c.regs[R]=t:=⟨_,rfl⟩
       rw[hTY]at t0 t1 KWW;rw[hTY];obtain⟨RL,hRL⟩:∃n,c.regs.length=n:=⟨_,rfl⟩
       rw[hRL]at c1 hR;have i1:(0:Int)<=(R:Int):=oM;have i2:(R:Int)<(RL:Int):=oM;have HBWW:=Aa (A4 w);subst hpp;clear hin hcl KW hTY HV hd ha hEP hat hat0 hRL hty h5 h6 h16 hE2 hE h29 h30 h32 h31;exact WV
      .have q31:(op==31)=false:=by simp[h31]
       by_cases h33:op=33
       .have q33:(op==33)=true:=by simp[h33]
        have h6:¬ (As op=true\/op=29\/op=30\/op=32):=by rw[hEP,hE2];simp[h29,h30,h32]
        have h5:op=31\/op=33\/op=19\/op=20:=.inr (.inl h33);have hin:=ha h5;obtain⟨R,rfl⟩:∃R:Nat,a=(R:Int):=⟨a.toNat,by have:=AR.1 hin;omega⟩
        have hR:R<c.regs.length:=by have:=AR.1 hin;omega
        have HV:Hid (CI c ⟨op,d,(R:Int),b,cc,n,bits⟩=DM c.sign c.regs[R]):=by
         show _=_;unfold CI;rw[if_neg h16,if_neg h6,if_pos h5];exact UP
        rw[HV.out];obtain⟨p1,q1,rfl,-⟩:=id hat.2.regs;have hat0:=hat;obtain⟨bb,oo,hpp,hcl⟩:=hat.2.regs.at hR;have KW:=Aa (fun(v:World) (h:Below w.heap.size w v)=>Cx C _ _ _ _ c hsl c.regs[R] (hty _ (gD hR)) v (hat0.below h));have c1:w.cell? ⟨C,1,none⟩=some (.slice p1 c.regs.length q1):=hat.1.at 1 rfl;have t0:w.cell? ⟨bb,oo+R*2,none⟩=some (.int .i64 c.regs[R].kind):=hcl.at 0 (v:=.int .i64 c.regs[R].kind) rfl;have t1:w.cell? ⟨bb,oo+R*2+1,none⟩=some (.int .i64 c.regs[R].par):=hcl.at 1 (v:=.int .i64 c.regs[R].par) rfl;have KWW:=Aa (KW.out w.drew (A4 _));obtain⟨TY,hTY⟩:∃t,c.regs[R]=t:=⟨_,rfl⟩
        rw[hTY]at t0 t1 KWW;rw[hTY];obtain⟨RL,hRL⟩:∃n,c.regs.length=n:=⟨_,rfl⟩
        rw[hRL]at c1 hR;have i1:(0:Int)<=(R:Int):=oM;have i2:(R:Int)<(RL:Int):=oM;have HBWW:=Aa (A4 w);subst hpp;clear hin hcl KW hTY HV hd ha hEP hat hat0 hRL hty h5 h6 h16 hE2 hE h29 h30 h32 h31 h33;exact WV
       .have q33:(op==33)=false:=by simp[h33]
        by_cases h19:op=19
        .have q19:(op==19)=true:=by simp[h19]
         have h6:¬ (As op=true\/op=29\/op=30\/op=32):=by rw[hEP,hE2];simp[h29,h30,h32]
         have h5:op=31\/op=33\/op=19\/op=20:=.inr (.inr (.inl h19));have hin:=ha h5;obtain⟨R,rfl⟩:∃R:Nat,a=(R:Int):=⟨a.toNat,by have:=AR.1 hin;omega⟩
         have hR:R<c.regs.length:=by have:=AR.1 hin;omega
         have HV:Hid (CI c ⟨op,d,(R:Int),b,cc,n,bits⟩=DM c.sign c.regs[R]):=by
          show _=_;unfold CI;rw[if_neg h16,if_neg h6,if_pos h5];exact UP
         rw[HV.out];obtain⟨p1,q1,rfl,-⟩:=id hat.2.regs;have hat0:=hat;obtain⟨bb,oo,hpp,hcl⟩:=hat.2.regs.at hR;have KW:=Aa (fun(v:World) (h:Below w.heap.size w v)=>Cx C _ _ _ _ c hsl c.regs[R] (hty _ (gD hR)) v (hat0.below h));have c1:w.cell? ⟨C,1,none⟩=some (.slice p1 c.regs.length q1):=hat.1.at 1 rfl;have t0:w.cell? ⟨bb,oo+R*2,none⟩=some (.int .i64 c.regs[R].kind):=hcl.at 0 (v:=.int .i64 c.regs[R].kind) rfl;have t1:w.cell? ⟨bb,oo+R*2+1,none⟩=some (.int .i64 c.regs[R].par):=hcl.at 1 (v:=.int .i64 c.regs[R].par) rfl;have KWW:=Aa (KW.out w.drew (A4 _));obtain⟨TY,hTY⟩:∃t,c.regs[R]=t:=⟨_,rfl⟩
         rw[hTY]at t0 t1 KWW;rw[hTY];obtain⟨RL,hRL⟩:∃n,c.regs.length=n:=⟨_,rfl⟩
         rw[hRL]at c1 hR;have i1:(0:Int)<=(R:Int):=oM;have i2:(R:Int)<(RL:Int):=oM;have HBWW:=Aa (A4 w);subst hpp;clear hin hcl KW hTY HV hd ha hEP hat hat0 hRL hty h5 h6 h16 hE2 hE h29 h30 h32 h31 h33 h19;exact WV
        .have q19:(op==19)=false:=by simp[h19]
         by_cases h20:op=20
         .have q20:(op==20)=true:=by simp[h20]
          have h6:¬ (As op=true\/op=29\/op=30\/op=32):=by rw[hEP,hE2];simp[h29,h30,h32]
          have h5:op=31\/op=33\/op=19\/op=20:=.inr (.inr (.inr h20));have hin:=ha h5;obtain⟨R,rfl⟩:∃R:Nat,a=(R:Int):=⟨a.toNat,by have:=AR.1 hin;omega⟩
          have hR:R<c.regs.length:=by have:=AR.1 hin;omega
          have HV:Hid (CI c ⟨op,d,(R:Int),b,cc,n,bits⟩=DM c.sign c.regs[R]):=by
           show _=_;unfold CI;rw[if_neg h16,if_neg h6,if_pos h5];exact UP
          rw[HV.out];obtain⟨p1,q1,rfl,-⟩:=id hat.2.regs;have hat0:=hat;obtain⟨bb,oo,hpp,hcl⟩:=hat.2.regs.at hR;have KW:=Aa (fun(v:World) (h:Below w.heap.size w v)=>Cx C _ _ _ _ c hsl c.regs[R] (hty _ (gD hR)) v (hat0.below h));have c1:w.cell? ⟨C,1,none⟩=some (.slice p1 c.regs.length q1):=hat.1.at 1 rfl;have t0:w.cell? ⟨bb,oo+R*2,none⟩=some (.int .i64 c.regs[R].kind):=hcl.at 0 (v:=.int .i64 c.regs[R].kind) rfl;have t1:w.cell? ⟨bb,oo+R*2+1,none⟩=some (.int .i64 c.regs[R].par):=hcl.at 1 (v:=.int .i64 c.regs[R].par) rfl;have KWW:=Aa (KW.out w.drew (A4 _));obtain⟨TY,hTY⟩:∃t,c.regs[R]=t:=⟨_,rfl⟩
          rw[hTY]at t0 t1 KWW;rw[hTY];obtain⟨RL,hRL⟩:∃n,c.regs.length=n:=⟨_,rfl⟩
          rw[hRL]at c1 hR;have i1:(0:Int)<=(R:Int):=oM;have i2:(R:Int)<(RL:Int):=oM;have HBWW:=Aa (A4 w);subst hpp;clear hin hcl KW hTY HV hd ha hEP hat hat0 hRL hty h5 h6 h16 hE2 hE h29 h30 h32 h31 h33 h19 h20;exact WV
         .have q20:(op==20)=false:=by simp[h20]
          have h6:¬ (As op=true\/op=29\/op=30\/op=32):=by rw[hEP,hE2];simp[h29,h30,h32]
          have h7:¬ (op=31\/op=33\/op=19\/op=20):=by simp[h31,h33,h19,h20]
          have HV:Hid (CI c ⟨op,d,a,b,cc,n,bits⟩=1):=by show _=_;unfold CI;rw[if_neg h16,if_neg h6,if_neg h7]
          rw[HV.out];clear hd ha hEP hat h6 h7 h16 hE2 hE h29 h30 h32 h31 h33 h19 h20 hty;exact YG
section
variable {c : Cd} {G P : List (List Int)} {f f' : Fr} {i i' : Am}
end
theorem Ig{c:Cd}(hc:(Ag c).1=0):∀t∈c.regs,t.kind=3->Ab t.par c.sign.length=true:=fun t ht h3=>by
 have h:=List.all_eq_true.1 (Fm.1 (BF.1 hc).1).types t ht;unfold Ak at h;rw[if_neg oM,if_pos h3]at h;exact h
theorem Sf{c:Cd}(hc:(Ag c).1=0):∀s∈c.slots,s.ty.kind=3->Ab s.ty.par c.sign.length=true:=fun s hs h3=>by
 have h:=List.all_eq_true.1 (Fm.1 (BF.1 hc).1).begun s hs;unfold AG at h;simp only[Bool.and_eq_true]at h;have h:=h.1;unfold Ak at h;rw[if_neg oM,if_pos h3]at h;exact h
theorem GH(C:Nat)(v0 v1 v2 v3:Value)(c:Cd)(hc:(Ag c).1=0)(w:World)(hat:B7 w C v0 v1 v2 v3 c):
 Calls prog 10 #[.pointer (some ⟨C,0,none⟩)] w fun e w'=>e=.returned (.int .i64 (Ed c))/\Below w.heap.size w w':=by
 have HSL:=Aa (Jt hc).1;have HLL:=Aa (Jt hc).2;have HE:=Aa hc;have HTY:=Aa (Ig hc);obtain⟨p3,q3,rfl,-⟩:=id hat.2.list;have HAT:=Aa hat;have c3:w.cell? ⟨C,3,none⟩=some (.slice p3 c.list.length q3):=hat.1.at 3 rfl;have HC3:=Aa c3;obtain⟨L,hL⟩:∃n,c.list.length=n:=⟨_,rfl⟩
 rw[hL]at c3;have HL:=Aa hL;have HJ0:Hid (Below w.heap.size w w):=Below.refl _ _;clear hat hL hc;go_enter func10,ntmps10;go_upto_block 0 with fail;go_wp2_with fail
 go_loopw [3,10] (fun nv iv wx=>∃k:Nat,k<=L/\iv=.int .i64 (k:Int)/\nv=.int .i64 (Bw c (c.list.take k))/\Hid (Below w.heap.size w wx)) (fun _ iv _=>L-(intOf iv).toNat)
 case atStart=>exact⟨0,gI _,rfl,rfl,HJ0.out⟩
 case round=>
  clear c3;obtain⟨k,hkk,rfl,rfl,HBW⟩:=hrel;have c3:=kc HBW.out HC3.out;rw[HL.out]at c3;by_cases hlt:k<L
  .have e1:(k:Int)<(L:Int):=oM;have hkl:k<c.list.length:=by rw[HL.out];exact hlt
   have HS1:=Aa (Qa (c:=c) hkl);obtain⟨hb1,hb2⟩:=DK HE.out c.list[k] (gD hkl);obtain⟨hs1,hs2⟩:=UF HE.out k;obtain⟨hd,ha⟩:=UY HE.out c.list[k] (gD hkl);obtain⟨bb,oo,hpp,hcl⟩:=HAT.2.list.at hkl;have KW:=Aa (Ii C bb (oo+k*7) _ _ _ _ c HSL.out c.list[k] hd ha HTY.out wr (HAT.below HBW.out) (hcl.below HBW.out));obtain⟨WG,hWG⟩:∃g,CI c c.list[k]=g:=⟨_,rfl⟩
   rw[hWG]at KW HS1 hb1 hb2;obtain⟨SM,hSM⟩:∃g,Bw c (c.list.take k)=g:=⟨_,rfl⟩
   rw[hSM]at HS1 hs1 hs2;rw[hSM];have hkL:L<=32768:=by have:=HLL.out;have:=HL.out;omega
   have wS:IntKind.i64.wrap (SM+WG)=SM+WG:=by rw[IntKind.wrap_i64];omega
   have wk:IntKind.i64.wrap ((k:Int)+1)=((k+1:Nat):Int):=by rw[IntKind.wrap_i64];omega
   have i1:(0:Int)<=(k:Int):=oM;have hk1:k+1<=L:=hlt;subst hpp;clear hkl hb1 hb2 hs1 hs2 hd ha hcl hWG hSM hkL;go_wp2_with(go_at_call 24;(with_reducible refine KW.out.mono ?_);rintro r9 w8 ⟨rfl,hb8⟩;have HB8:=Aa (HBW.out.trans (hb8.mono HBW.out.size));clear hb8);go_roundw
   case rel=>exact⟨k+1,hk1,gN,by rw[HS1.out],HB8⟩
   case measure=>simp[intOf];omega
  .have e1:¬ (k:Int)<(L:Int):=oM;have hkl:c.list.take k=c.list:=List.take_of_length_le (by rw[HL.out];omega);have HF:Hid (Bw c (c.list.take k)=Ed c):=by show _=_;rw[hkl];rfl
   clear hkl hlt;go_wp2_with fail;refine bodyPost_ret (by simp[results,results10,go_sem, *];try rfl) rfl ?_;exact⟨by rw[HF.out],HBW.out⟩
theorem GI(C:Nat)(v0 v1 v2 v3:Value)(c:Cd)(hc:(Ag c).1=0)(w:World)(hat:B7 w C v0 v1 v2 v3 c):
 Calls prog 25 #[.pointer (some ⟨C,0,none⟩)] w fun e w'=>e=.returned (.int .i64 (EM c))/\Below w.heap.size w w':=by
 have HSL:=Aa (Jt hc).1;have HE:=Aa hc;have HAH:=Aa (Fm.1 (BF.1 hc).1);have HTY:=Aa (Ig hc);have HTS:=Aa (Sf hc);obtain⟨p1,q1,rfl,-⟩:=id hat.2.regs;obtain⟨p2,q2,rfl,-⟩:=id hat.2.slots;have HAT:=Aa hat;have c1:w.cell? ⟨C,1,none⟩=some (.slice p1 c.regs.length q1):=hat.1.at 1 rfl;have c2:w.cell? ⟨C,2,none⟩=some (.slice p2 c.slots.length q2):=hat.1.at 2 rfl;have HC2:=Aa c2;obtain⟨L1,hL1⟩:∃n,c.regs.length=n:=⟨_,rfl⟩
 obtain⟨L2,hL2⟩:∃n,c.slots.length=n:=⟨_,rfl⟩
 rw[hL1]at c1;have HL1:=Aa hL1;have HL2:=Aa hL2;have HJ0:Hid (Below w.heap.size w w):=Below.refl _ _;clear hat hL1 hL2 hc c2;go_enter func25,ntmps25;go_upto_block 0 with fail;go_cut [3] (fun nv wx=>nv=.int .i64 (C9 c.sign c.regs)/\Hid (Below w.heap.size w wx))
 case first=>
  go_wp2_with fail
  go_loopw [3,13] (fun nv iv wx=>∃k:Nat,k<=L1/\iv=.int .i64 (k:Int)/\nv=.int .i64 (C9 c.sign (c.regs.take k))/\Hid (Below w.heap.size w wx)) (fun _ iv _=>L1-(intOf iv).toNat)
  case atStart=>exact⟨0,gI _,rfl,rfl,HJ0.out⟩
  case round=>
   clear c1;obtain⟨k,hkk,rfl,rfl,HBW⟩:=hrel;by_cases hlt:k<L1
   .have e1:(k:Int)<(L1:Int):=oM;have hkl:k<c.regs.length:=by rw[HL1.out];exact hlt
    have HS1:=Aa (Oc (ps:=c.sign) hkl);obtain⟨hb1,hb2⟩:=I0 HE.out _ (gD hkl);obtain⟨hs2,hs3⟩:=Mu (k:=k) (n:=16384) (I0 HE.out) HAH.regs;obtain⟨bb,oo,hpp,hcl⟩:=HAT.2.regs.at hkl;have t0:wr.cell? ⟨bb,oo+k*2,none⟩=some (.int .i64 c.regs[k].kind):=kc HBW.out (hcl.at 0 (v:=.int .i64 c.regs[k].kind) rfl);have t1:wr.cell? ⟨bb,oo+k*2+1,none⟩=some (.int .i64 c.regs[k].par):=kc HBW.out (hcl.at 1 (v:=.int .i64 c.regs[k].par) rfl);have KW:=Aa (fun(v:World) (h:Below w.heap.size w v)=>Cx C _ _ _ _ c HSL.out c.regs[k] (HTY.out _ (gD hkl)) v (HAT.below h));obtain⟨TY,hTY⟩:∃t,c.regs[k]=t:=⟨_,rfl⟩
    rw[hTY]at HS1 hb1 hb2 t0 t1 KW;obtain⟨WG,hWG⟩:∃g,DM c.sign TY=g:=⟨_,rfl⟩
    rw[hWG]at HS1 hb1 hb2 KW;obtain⟨SM,hSM⟩:∃g,C9 c.sign (c.regs.take k)=g:=⟨_,rfl⟩
    rw[hSM]at HS1 hs2 hs3;rw[hSM];have wk:IntKind.i64.wrap ((k:Int)+1)=((k+1:Nat):Int):=by have:=HAH.regs;have:=HL1.out;rw[IntKind.wrap_i64];omega
    have wS:IntKind.i64.wrap (SM+WG)=SM+WG:=by rw[IntKind.wrap_i64];omega
    have i1:(0:Int)<=(k:Int):=oM;have hk1:k+1<=L1:=hlt;obtain⟨W1,hW1⟩:∃W,wr.alloc (.cells #[.int .i64 TY.kind,.int .i64 TY.par] 63)=W:=⟨_,rfl⟩
    have n0:W1.cell? ⟨wr.heap.size,0,none⟩=some (.int .i64 TY.kind):=by rw[<-hW1];simp[go_sem]
    have n1:W1.cell? ⟨wr.heap.size,1,none⟩=some (.int .i64 TY.par):=by rw[<-hW1];simp[go_sem]
    have hbW1:Below wr.heap.size wr W1:=by rw[<-hW1];exact A0 _ _
    have HBW1:=Aa (HBW.trans (hbW1.mono HBW.size));have KWW:=Aa (KW.out W1 HBW1.out);subst hpp;clear hkl hb1 hb2 hs2 hs3 hcl hTY hWG hSM KW hbW1;go_upto_region 5 with fail;try rw[hW1]
    clear hW1 t0 t1;go_wp2_with(go_at_call 54;(with_reducible refine KWW.out.mono ?_);rintro r9 w8 ⟨rfl,hb8⟩;have HB8:=Aa (HBW1.out.trans (hb8.mono HBW1.out.size));clear hb8);go_roundw
    case rel=>exact⟨k+1,hk1,gN,by rw[HS1.out],HB8⟩
    case measure=>simp[intOf];omega
   .have e1:¬ (k:Int)<(L1:Int):=oM;have hkl:c.regs.take k=c.regs:=List.take_of_length_le (by rw[HL1.out];omega);have HF:Hid (C9 c.sign (c.regs.take k)=C9 c.sign c.regs):=by show _=_;rw[hkl]
    clear hkl hlt;go_wp2_with fail;go_meet;exact⟨by rw[HF.out],HBW⟩
 case rest=>
  clear c1;obtain⟨rfl,HBX⟩:=hcut;rename World=>wx;obtain⟨RR,hRR⟩:∃r,C9 c.sign c.regs=r:=⟨_,rfl⟩
  rw[hRR];have HRR:=Aa hRR;clear hRR;have c2:=kc HBX.out HC2.out;rw[HL2.out]at c2;go_upto_block 2 with fail;go_wp2_with fail
  go_loopw [3,28] (fun nv iv wy=>∃k:Nat,k<=L2/\iv=.int .i64 (k:Int)/\nv=.int .i64 (RR+C9 c.sign ((c.slots.map fun s=>s.ty).take k))/\Hid (Below w.heap.size w wy)) (fun _ iv _=>L2-(intOf iv).toNat)
  case atStart=>exact⟨0,gI _,rfl,by simp[C9],HBX.out⟩
  case round=>
   clear c2;obtain⟨k,hkk,rfl,rfl,HBW⟩:=hrel;by_cases hlt:k<L2
   .have e1:(k:Int)<(L2:Int):=oM;have hkl:k<c.slots.length:=by rw[HL2.out];exact hlt
    have hkm:k<(c.slots.map fun s=>s.ty).length:=by rw[List.length_map];exact hkl
    have hat:(c.slots.map fun s=>s.ty)[k]=c.slots[k].ty:=sM;have hs1:=Oc (ps:=c.sign) hkm;rw[hat]at hs1;have HS1:=Aa hs1;obtain⟨hb1,hb2⟩:=J1 HE.out _ (gD hkm);rw[hat]at hb1 hb2;obtain⟨hs2,hs3⟩:=Mu (k:=k) (n:=16384) (J1 HE.out) (by rw[List.length_map];have:=HAH.slots;omega);obtain⟨hr1,hr2⟩:=Mu (ps:=c.sign) (l:=c.regs) (k:=c.regs.length) (n:=16384) (I0 HE.out) HAH.regs;rw[List.take_length,HRR.out]at hr1 hr2;obtain⟨bb,oo,hpp,hcl⟩:=HAT.2.slots.at hkl;have t0:wr.cell? ⟨bb,oo+k*5,none⟩=some (.int .i64 c.slots[k].ty.kind):=kc HBW.out (hcl.at 0 (v:=.int .i64 c.slots[k].ty.kind) rfl);have t1:wr.cell? ⟨bb,oo+k*5+1,none⟩=some (.int .i64 c.slots[k].ty.par):=kc HBW.out (hcl.at 1 (v:=.int .i64 c.slots[k].ty.par) rfl);have t2:wr.cell? ⟨bb,oo+k*5+2,none⟩=some (.bool c.slots[k].keep):=kc HBW.out (hcl.at 2 (v:=.bool c.slots[k].keep) rfl);have t3:wr.cell? ⟨bb,oo+k*5+3,none⟩=some (.int .u32 c.slots[k].bits):=kc HBW.out (hcl.at 3 (v:=.int .u32 c.slots[k].bits) rfl);have t4:wr.cell? ⟨bb,oo+k*5+4,none⟩=some (.int .i64 c.slots[k].int_):=kc HBW.out (hcl.at 4 (v:=.int .i64 c.slots[k].int_) rfl);have KW:=Aa (fun(v:World) (h:Below w.heap.size w v)=>Cx C _ _ _ _ c HSL.out c.slots[k].ty (HTS.out _ (gD hkl)) v (HAT.below h));obtain⟨⟨TY,kp,sb,si⟩,hTY⟩:∃t,c.slots[k]=t:=⟨_,rfl⟩
    rw[hTY]at HS1 hb1 hb2 t0 t1 t2 t3 t4 KW;obtain⟨tk,tp⟩:=TY;simp only at HS1 hb1 hb2 t0 t1 t2 t3 t4 KW;obtain⟨WG,hWG⟩:∃g,DM c.sign ⟨tk,tp⟩=g:=⟨_,rfl⟩
    rw[hWG]at HS1 hb1 hb2 KW;obtain⟨SM,hSM⟩:∃g,C9 c.sign ((c.slots.map fun s=>s.ty).take k)=g:=⟨_,rfl⟩
    rw[hSM]at HS1 hs2 hs3;rw[hSM];have wk:IntKind.i64.wrap ((k:Int)+1)=((k+1:Nat):Int):=by have:=HAH.slots;have:=HL2.out;rw[IntKind.wrap_i64];omega
    have wS:IntKind.i64.wrap (RR+SM+WG)=RR+SM+WG:=by rw[IntKind.wrap_i64];omega
    have i1:(0:Int)<=(k:Int):=oM;have hk1:k+1<=L2:=hlt;obtain⟨W1,hW1⟩:∃W,wr.alloc (.cells #[.int .i64 tk,.int .i64 tp,.bool kp,.int .u32 sb,.int .i64 si] 65)=W:=⟨_,rfl⟩
    have n0:W1.cell? ⟨wr.heap.size,0,none⟩=some (.int .i64 tk):=by rw[<-hW1];simp[go_sem]
    have n1:W1.cell? ⟨wr.heap.size,1,none⟩=some (.int .i64 tp):=by rw[<-hW1];simp[go_sem]
    have hbW1:Below wr.heap.size wr W1:=by rw[<-hW1];exact A0 _ _
    have HBW1:=Aa (HBW.trans (hbW1.mono HBW.size));have KWW:=Aa (KW.out W1 HBW1.out);subst hpp;clear hkl hkm hat hs1 hb1 hb2 hs2 hs3 hr1 hr2 hcl hTY hWG hSM KW hbW1;go_upto_region 10 with fail;try rw[hW1]
    clear hW1 t0 t1 t2 t3 t4;go_wp2_with(go_at_call 54;(with_reducible refine KWW.out.mono ?_);rintro r9 w8 ⟨rfl,hb8⟩;have HB8:=Aa (HBW1.out.trans (hb8.mono HBW1.out.size));clear hb8);go_roundw
    case rel=>exact⟨k+1,hk1,gN,by rw[HS1.out];congr 1;omega,HB8⟩
    case measure=>simp[intOf];omega
   .have e1:¬ (k:Int)<(L2:Int):=oM;have hkl:(c.slots.map fun s=>s.ty).take k=(c.slots.map fun s=>s.ty):=List.take_of_length_le (by rw[List.length_map,HL2.out];omega);have HF:Hid (RR+C9 c.sign ((c.slots.map fun s=>s.ty).take k)=EM c):=by show _=_;rw[hkl,Pe,HRR.out]
    clear hkl hlt;go_wp2_with fail;refine bodyPost_ret (by simp[results,results25,go_sem, *];try rfl) rfl ?_;exact⟨by rw[HF.out],HBW.out⟩
theorem J6(v0 v1 v2 v3:Value)(c:Cd)(hk:AZ c)(w:World)(hv:Cy w v0 v1 v2 v3 c):
 Calls prog 4 #[.agg #[v0,v1,v2,v3]] w fun e w'=>e=.returned (.tuple #[.int .i64 (if(Ag c).1=0 then Ed c else 0),.int .i64 (Ag c).1])/\Below w.heap.size w w':=by
 obtain⟨CV,hCV⟩:∃v,(if(Ag c).1=0 then Ed c else 0)=v:=⟨_,rfl⟩
 rw[hCV];obtain⟨E,hE⟩:∃e,(Ag c).1=e:=⟨_,rfl⟩
 have HE:=Aa hE;rw[hE]at hCV |-;have HCV:=Aa hCV;clear hCV;obtain⟨X,hX⟩:=gA (w.heap.size)
 obtain⟨W0,hW0⟩:∃W,w.alloc (.cells #[v0,v1,v2,v3] 27)=W:=⟨_,rfl⟩
 have hb0:Below w.heap.size w W0:=by rw[<-hW0];exact A0 _ _
 have x0:W0.cell? ⟨X,0,none⟩=some v0:=by rw[<-hW0,<-hX];simp[go_sem]
 have x1:W0.cell? ⟨X,1,none⟩=some v1:=by rw[<-hW0,<-hX];simp[go_sem]
 have x2:W0.cell? ⟨X,2,none⟩=some v2:=by rw[<-hW0,<-hX];simp[go_sem]
 have x3:W0.cell? ⟨X,3,none⟩=some v3:=by rw[<-hW0,<-hX];simp[go_sem]
 have HAT:Hid (B7 W0 X v0 v1 v2 v3 c):=by
  exact X7
 have KC:=Aa (ER v0 v1 v2 v3 c hk W0 (hv.below hb0));rw[hE]at KC;have HB0:=Aa hb0;have HW0:=Aa hW0;clear hv hb0 hE hk hW0;go_enter func4,ntmps4;go_upto_region 1 with fail;try rw[HW0.out]
 try rw[hX]
 clear hX;go_upto_region 2 with(go_at_call 9;(with_reducible refine KC.out.mono ?_);rintro e9 w4 ⟨rfl,hb4⟩;have HB4:=Aa hb4;clear hb4)
 have HB:=Aa (bel HB0.out HB4.out);clear x0 x1 x2 x3 KC;by_cases h0:E=0
 .subst h0;have KO:=Aa (GH X _ _ _ _ c HE.out w4 (HAT.below HB4.out));have HV:Hid (CV=Ed c):=by show _=_;rw[<-HCV.out,if_pos rfl]
  go_wp2_with(go_at_call 10;(with_reducible refine KO.out.mono ?_);rintro e9 w5 ⟨rfl,hb5⟩;have HB5:=Aa (bel HB.out hb5);clear hb5);refine bodyPost_ret (by simp[results,results4,go_sem, *];try rfl) rfl ?_;exact⟨by rw[HV.out],HB5.out⟩
 .have q1:(E==0)=false:=beq_eq_false_iff_ne.2 h0;have q2:(E != 0)=true:=by simp[h0]
  have HV:Hid (CV=0):=by show _=_;rw[<-HCV.out,if_neg h0]
  have H0:=Aa h0;clear h0;go_wp2_with fail;refine bodyPost_ret (by simp[results,results4,go_sem, *];try rfl) rfl ?_;exact⟨by rw[HV.out],HB.out⟩
theorem PI(v0 v1 v2 v3:Value)(c:Cd)(hk:AZ c)(w:World)(hv:Cy w v0 v1 v2 v3 c):
 Calls prog 12 #[.agg #[v0,v1,v2,v3]] w fun e w'=>e=.returned (.tuple #[.int .i64 (if(Ag c).1=0 then EM c else 0),.int .i64 (Ag c).1])/\Below w.heap.size w w':=by
 obtain⟨CV,hCV⟩:∃v,(if(Ag c).1=0 then EM c else 0)=v:=⟨_,rfl⟩
 rw[hCV];obtain⟨E,hE⟩:∃e,(Ag c).1=e:=⟨_,rfl⟩
 have HE:=Aa hE;rw[hE]at hCV |-;have HCV:=Aa hCV;clear hCV;obtain⟨X,hX⟩:=gA (w.heap.size)
 obtain⟨W0,hW0⟩:∃W,w.alloc (.cells #[v0,v1,v2,v3] 27)=W:=⟨_,rfl⟩
 have hb0:Below w.heap.size w W0:=by rw[<-hW0];exact A0 _ _
 have x0:W0.cell? ⟨X,0,none⟩=some v0:=by rw[<-hW0,<-hX];simp[go_sem]
 have x1:W0.cell? ⟨X,1,none⟩=some v1:=by rw[<-hW0,<-hX];simp[go_sem]
 have x2:W0.cell? ⟨X,2,none⟩=some v2:=by rw[<-hW0,<-hX];simp[go_sem]
 have x3:W0.cell? ⟨X,3,none⟩=some v3:=by rw[<-hW0,<-hX];simp[go_sem]
 have HAT:Hid (B7 W0 X v0 v1 v2 v3 c):=by
  exact X7
 have KC:=Aa (ER v0 v1 v2 v3 c hk W0 (hv.below hb0));rw[hE]at KC;have HB0:=Aa hb0;have HW0:=Aa hW0;clear hv hb0 hE hk hW0;go_enter func12,ntmps12;go_upto_region 1 with fail;try rw[HW0.out]
 try rw[hX]
 clear hX;go_upto_region 2 with(go_at_call 9;(with_reducible refine KC.out.mono ?_);rintro e9 w4 ⟨rfl,hb4⟩;have HB4:=Aa hb4;clear hb4)
 have HB:=Aa (bel HB0.out HB4.out);clear x0 x1 x2 x3 KC;by_cases h0:E=0
 .subst h0;have KO:=Aa (GI X _ _ _ _ c HE.out w4 (HAT.below HB4.out));have HV:Hid (CV=EM c):=by show _=_;rw[<-HCV.out,if_pos rfl]
  go_wp2_with(go_at_call 25;(with_reducible refine KO.out.mono ?_);rintro e9 w5 ⟨rfl,hb5⟩;have HB5:=Aa (bel HB.out hb5);clear hb5);refine bodyPost_ret (by simp[results,results12,go_sem, *];try rfl) rfl ?_;exact⟨by rw[HV.out],HB5.out⟩
 .have q1:(E==0)=false:=beq_eq_false_iff_ne.2 h0;have q2:(E != 0)=true:=by simp[h0]
  have HV:Hid (CV=0):=by show _=_;rw[<-HCV.out,if_neg h0]
  have H0:=Aa h0;clear h0;go_wp2_with fail;refine bodyPost_ret (by simp[results,results12,go_sem, *];try rfl) rfl ?_;exact⟨by rw[HV.out],HB.out⟩
theorem Ih(v0 v1 v2 v3:Value)(c:Cd)(hk:AZ c)(w:World)(hv:Cy w v0 v1 v2 v3 c):
 Calls prog 14 #[.agg #[v0,v1,v2,v3]] w fun e w'=>e=.returned (.int .i64 (Fp c))/\Below w.heap.size w w':=by
 obtain⟨CV,hCV⟩:∃v,Fp c=v:=⟨_,rfl⟩
 rw[hCV];have HCV:=Aa hCV;clear hCV;obtain⟨E,hE⟩:∃e,(Ag c).1=e:=⟨_,rfl⟩
 have HE:=Aa hE;obtain⟨X,hX⟩:=gA (w.heap.size)
 obtain⟨W0,hW0⟩:∃W,w.alloc (.cells #[v0,v1,v2,v3] 27)=W:=⟨_,rfl⟩
 have hb0:Below w.heap.size w W0:=by rw[<-hW0];exact A0 _ _
 have x0:W0.cell? ⟨X,0,none⟩=some v0:=by rw[<-hW0,<-hX];simp[go_sem]
 have x1:W0.cell? ⟨X,1,none⟩=some v1:=by rw[<-hW0,<-hX];simp[go_sem]
 have x2:W0.cell? ⟨X,2,none⟩=some v2:=by rw[<-hW0,<-hX];simp[go_sem]
 have x3:W0.cell? ⟨X,3,none⟩=some v3:=by rw[<-hW0,<-hX];simp[go_sem]
 have HAT:Hid (B7 W0 X v0 v1 v2 v3 c):=by
  exact X7
 have KC:=Aa (ER v0 v1 v2 v3 c hk W0 (hv.below hb0));rw[hE]at KC;have HB0:=Aa hb0;have HW0:=Aa hW0;clear hv hb0 hE hk hW0;go_enter func14,ntmps14;go_upto_region 1 with fail;try rw[HW0.out]
 try rw[hX]
 clear hX;go_upto_region 2 with(go_at_call 9;(with_reducible refine KC.out.mono ?_);rintro e9 w4 ⟨rfl,hb4⟩;have HB4:=Aa hb4;clear hb4)
 have HB:=Aa (bel HB0.out HB4.out);clear x0 x1 x2 x3 KC;by_cases h0:E=0
 .subst h0;have HV:Hid (Fp c=if 16777216<EM c then 261 else if 4294967296<Ed c then 260 else 0):=by show _=_;unfold Fp;rw[if_neg Xk]
  obtain⟨RV,hRV⟩:∃r,EM c=r:=⟨_,rfl⟩
  obtain⟨CO,hCV⟩:∃r,Ed c=r:=⟨_,rfl⟩
  have KR:=Aa (GI X _ _ _ _ c HE.out w4 (HAT.below HB4.out));have KO:=Aa (fun(v:World) (h:Below w4.heap.size w4 v)=>GH X _ _ _ _ c HE.out v ((HAT.below HB4.out).below h));have KJ:=Aa (fun v=>MX RV CO v);rw[hRV]at KR HV;rw[hCV]at KO HV;obtain⟨JV,hJV⟩:∃r,(if 16777216<RV then 261 else if 4294967296<CO then 260 else 0:Int)=r:=⟨_,rfl⟩
  rw[hJV]at KJ HV;have HVV:Hid (CV=JV):=by show _=_;rw[<-HCV.out,HV.out]
  clear hRV hCV hJV HV;go_wp2_with(first|(go_at_call 25;(with_reducible refine KR.out.mono ?_);rintro e9 w5 ⟨rfl,hb5⟩;have HB5:=Aa hb5;clear hb5)|(go_at_call 10;(with_reducible refine(KO.out _ HB5.out).mono ?_);rintro e9 w6 ⟨rfl,hb6⟩;have HB6:=Aa (bel HB.out (bel HB5.out hb6));clear hb6)|(go_at_call 26;(with_reducible refine(KJ.out _).mono ?_);rintro e9 w7 ⟨rfl,hw7⟩;have hw7:=hw7.symm;subst hw7));refine bodyPost_ret (by simp[results,results14,go_sem, *];try rfl) rfl ?_;exact⟨by rw[HVV.out],HB6.out⟩
 .have q1:(E==0)=false:=beq_eq_false_iff_ne.2 h0;have q2:(E != 0)=true:=by simp[h0]
  have HV:Hid (CV=E):=by show _=_;rw[<-HCV.out];unfold Fp;rw[if_pos (by rw[HE.out];exact h0),HE.out]
  have H0:=Aa h0;clear h0;go_wp2_with fail;refine bodyPost_ret (by simp[results,results14,go_sem, *];try rfl) rfl ?_;exact⟨by rw[HV.out],HB.out⟩
theorem JL(v0 v1 v2 v3:Value)(c:Cd)(hk:AZ c)(at_:Int)(w:World)(hv:Cy w v0 v1 v2 v3 c):
 Calls prog 13 #[.agg #[v0,v1,v2,v3],.int .i64 at_] w fun e w'=>e=.returned (.tuple #[.int .i64 (Cb c at_).1,.int .i64 (Cb c at_).2])/\Below w.heap.size w w':=by
 obtain⟨X1,hX1⟩:∃v,(Cb c at_).1=v:=⟨_,rfl⟩
 obtain⟨X2,hX2⟩:∃v,(Cb c at_).2=v:=⟨_,rfl⟩
 rw[hX1,hX2];have HXV:Hid (Cb c at_=(X1,X2)):=by show _=_;rw[<-hX1,<-hX2]
 clear hX1 hX2;obtain⟨E,hE⟩:∃e,(Ag c).1=e:=⟨_,rfl⟩
 have HE:=Aa hE;obtain⟨X,hX⟩:=gA (w.heap.size)
 obtain⟨W0,hW0⟩:∃W,w.alloc (.cells #[v0,v1,v2,v3] 27)=W:=⟨_,rfl⟩
 have hb0:Below w.heap.size w W0:=by rw[<-hW0];exact A0 _ _
 have x0:W0.cell? ⟨X,0,none⟩=some v0:=by rw[<-hW0,<-hX];simp[go_sem]
 have x1:W0.cell? ⟨X,1,none⟩=some v1:=by rw[<-hW0,<-hX];simp[go_sem]
 have x2:W0.cell? ⟨X,2,none⟩=some v2:=by rw[<-hW0,<-hX];simp[go_sem]
 have x3:W0.cell? ⟨X,3,none⟩=some v3:=by rw[<-hW0,<-hX];simp[go_sem]
 have HAT:Hid (B7 W0 X v0 v1 v2 v3 c):=by
  exact X7
 have KC:=Aa (ER v0 v1 v2 v3 c hk W0 (hv.below hb0));rw[hE]at KC;have HB0:=Aa hb0;have HW0:=Aa hW0;clear hv hb0 hE hk hW0;go_enter func13,ntmps13;go_upto_region 1 with fail;try rw[HW0.out]
 try rw[hX]
 clear hX;go_upto_region 2 with(go_at_call 9;(with_reducible refine KC.out.mono ?_);rintro e9 w4 ⟨rfl,hb4⟩;have HB4:=Aa hb4;clear hb4)
 have HB:=Aa (bel HB0.out HB4.out);clear x0 x1 x2 x3 KC;by_cases h0:E=0
 .subst h0;obtain⟨p3,q3,rfl,-⟩:=id HAT.2.list;have c3:w4.cell? ⟨X,3,none⟩=some (.slice p3 c.list.length q3):=kc HB4.out (HAT.1.at 3 rfl);by_cases hn:at_<0
  .have HV:Hid (Cb c at_=(0,1)):=by show _=_;unfold Cb;rw[if_neg Xk,if_neg (by rw[AR];omega)]
   have HVV:Hid (((X1,X2):Int×Int)=(0,1)):=by show _=_;rw[<-HXV.out,HV.out]
   clear HV;exact XE
  .by_cases hm:(c.list.length:Int)<=at_
   .have HV:Hid (Cb c at_=(0,1)):=by show _=_;unfold Cb;rw[if_neg Xk,if_neg (by rw[AR];omega)]
    have HVV:Hid (((X1,X2):Int×Int)=(0,1)):=by show _=_;rw[<-HXV.out,HV.out]
    obtain⟨L,hL⟩:∃n,c.list.length=n:=⟨_,rfl⟩
    rw[hL]at c3 hm;have hm2:at_≥(L:Int):=hm;clear HV hL;exact XE
   .obtain⟨k,rfl⟩:∃k:Nat,at_=(k:Int):=⟨at_.toNat,oM⟩
    have hkl:k<c.list.length:=oM;have HV:Hid (Cb c (k:Int)=(CI c c.list[k],0)):=by
     show _=_;unfold Cb;rw[if_neg Xk,if_pos (AR.2 ⟨oM,oM⟩),Int.toNat_natCast,gB hkl];rfl
    have HVV:Hid (((X1,X2):Int×Int)=(CI c c.list[k],0)):=by show _=_;rw[<-HXV.out,HV.out]
    obtain⟨hd,ha⟩:=UY HE.out c.list[k] (gD hkl);obtain⟨bb,oo,hpp,hcl⟩:=HAT.2.list.at hkl;have KW:=Aa (Ii X bb (oo+k*7) _ _ _ _ c (Jt HE.out).1 c.list[k] hd ha (Ig HE.out) w4 (HAT.below HB4.out) (hcl.below HB4.out));obtain⟨WG,hWG⟩:∃g,CI c c.list[k]=g:=⟨_,rfl⟩
    rw[hWG]at KW HVV;obtain⟨L,hL⟩:∃n,c.list.length=n:=⟨_,rfl⟩
    rw[hL]at c3 hkl hm;have e1:¬ (k:Int)<0:=oM;have e2:¬ ((k:Int)≥(L:Int)):=oM;have e3:(k:Int)<(L:Int):=oM;have i1:(0:Int)<=(k:Int):=oM;subst hpp;clear HV hL hd ha hcl hWG hn;go_wp2_with(go_at_call 24;(with_reducible refine KW.out.mono ?_);rintro e9 w5 ⟨rfl,hb5⟩;have HB5:=Aa (bel HB.out hb5);clear hb5);refine bodyPost_ret (by simp[results,results13,go_sem, *];try rfl) rfl ?_;exact⟨by rw[(Prod.mk.inj HVV.out).1,(Prod.mk.inj HVV.out).2],HB5.out⟩
 .have q1:(E==0)=false:=beq_eq_false_iff_ne.2 h0;have q2:(E != 0)=true:=by simp[h0]
  have HV:Hid (Cb c at_=(0,E)):=by show _=_;unfold Cb;rw[if_pos (by rw[HE.out];exact h0),HE.out]
  have HVV:Hid (((X1,X2):Int×Int)=(0,E)):=by show _=_;rw[<-HXV.out,HV.out]
  have H0:=Aa h0;clear h0 HV;exact XE
theorem Ul{α:Type}{k:Nat}{f:α->List Value}(hf:∀x,(f x).length=k){l:List α}(w:World)(cs:Array Value)(t:TypeId)(h:cs.toList=AT f l)(c:Nat):Bj k f (w.alloc (.cells cs t)) (.slice (some ⟨w.heap.size,0,none⟩) l.length c) l:=by
 refine⟨_,_,rfl,.inr ⟨w.heap.size,0,rfl,fun i hi j hj=>?_⟩⟩;have hj':j<k:=by rw[<-hf l[i]];exact hj
 have h1:=GQ hf l i j hi hj';rw[<-h]at h1;have h2:cs[0+i*k+j]? =some (f l[i])[j]:=by
  rw[Nat.zero_add,<-Array.getElem?_toList,h1,gB hj]
 have h3:(w.alloc (.cells cs t)).heap[w.heap.size]? =some (.cells cs t (0,0)):=heap_alloc_new w _;unfold World.cell?;simp only[h3];exact h2
theorem FT{α:Type}{k:Nat}{f:α->List Value}(hf:∀x,(f x).length=k){l:List α}(w:World)(cs:Array Value)(t:TypeId)(h:cs.toList=AT f l)(c:Nat){n:Nat}(hn:w.heap.size=n):Bj k f (w.alloc (.cells cs t)) (.slice (some ⟨n,0,none⟩) l.length c) l:=by
 subst hn;exact Ul hf w cs t h c
def JO:Cd:=⟨[⟨⟨#[119]⟩,1,3⟩],[⟨3,0⟩,⟨1,0⟩],[],[⟨29,0,0,0,0,0,0⟩,⟨19,1,0,0,0,0,0⟩,⟨6,0,0,1,0,0,0⟩,⟨31,0,0,0,0,0,0⟩]⟩
theorem Lf:(Ag JO).1=0:=by decide+kernel
theorem O9:AZ JO:=⟨dE,dE,dE,dE,dE,dE,dE⟩
theorem UA:Ed JO=12:=by decide+kernel
theorem UC:EM JO=4:=by decide+kernel
theorem Sg:Cb JO 1=(3,0):=by decide+kernel
theorem PB:Fp JO=0:=by decide+kernel
def Wo:Cd:=⟨[],[],[],[⟨0,0,0,0,0,0,0⟩]⟩
theorem Wp:AZ Wo:=⟨dE,dE,dE,dE,dE,dE,dE⟩
theorem OD:Fp Wo=160:=by decide+kernel
theorem MS(w:World):Calls prog 11 #[] w fun e w'=>∃a b d,e=.returned (.agg #[.slice (some ⟨a,0,none⟩) 1 1,.slice (some ⟨b,0,none⟩) 2 2,.slice none 0 0,.slice (some ⟨d,0,none⟩) 4 4])/\Cy w' (.slice (some ⟨a,0,none⟩) 1 1) (.slice (some ⟨b,0,none⟩) 2 2) (.slice none 0 0) (.slice (some ⟨d,0,none⟩) 4 4) JO/\Below w.heap.size w w':=by
 go_enter func11,ntmps11;go_wp2;refine bodyPost_ret (by simp[results,results11,go_sem];try rfl) rfl ?_;refine⟨_,_,_,rfl,?_,gG⟩;exact⟨(FT (l:=JO.sign) FL _ _ _ rF 1 sM).below (A0 _ _),FT (l:=JO.regs) GY _ _ _ rF 2 sM,⟨none,0,rfl,.inl rfl⟩,((FT (l:=JO.list) FD _ _ _ rF 4 sM).below (A0 _ _)).below (A0 _ _)⟩
theorem Lr(w:World):Calls prog 6 #[] w fun e w'=>e=.returned (.bool true)/\Below w.heap.size w w':=by
 have KS:=Aa (fun v=>MS v);have K1:=Aa (fun(v:World) (a0 a1 a2 a3:Value) (h:Cy v a0 a1 a2 a3 JO)=>J6 a0 a1 a2 a3 JO O9 v h);have K2:=Aa (fun(v:World) (a0 a1 a2 a3:Value) (h:Cy v a0 a1 a2 a3 JO)=>PI a0 a1 a2 a3 JO O9 v h);have K3:=Aa (fun(v:World) (a0 a1 a2 a3:Value) (h:Cy v a0 a1 a2 a3 JO)=>JL a0 a1 a2 a3 JO O9 1 v h);have K4:=Aa (fun(v:World) (a0 a1 a2 a3:Value) (h:Cy v a0 a1 a2 a3 JO)=>Ih a0 a1 a2 a3 JO O9 v h);have K5:=Aa (fun(v:World) (a0 a1 a2 a3:Value) (h:Cy v a0 a1 a2 a3 Wo)=>Ih a0 a1 a2 a3 Wo Wp v h);rw[Lf,UA,if_pos rfl]at K1;rw[Lf,UC,if_pos rfl]at K2;rw[Sg]at K3;rw[PB]at K4;rw[OD]at K5;simp only at K3;have K6:Hid (∀v:World,Calls prog 14 #[.agg #[.slice none 0 0,.slice none 0 0,.slice none 0 0,.slice (some ⟨v.heap.size,0,none⟩) 1 1]] (v.alloc (.cells #[.int .i64 0,.int .i64 0,.int .i64 0,.int .i64 0,.int .i64 0,.int .i64 0,.int .u32 0] 55)) fun e w'=>e=.returned (.int .i64 160)/\Below v.heap.size v w'):=fun v=>(K5.out _ _ _ _ _ ⟨⟨none,0,rfl,.inl rfl⟩,⟨none,0,rfl,.inl rfl⟩,⟨none,0,rfl,.inl rfl⟩,FT (l:=Wo.list) FD v _ _ rF 1 rfl⟩).mono fun e w' ⟨h1,h2⟩=>⟨h1,bel (A0 _ _) h2⟩
 clear K5;go_enter func6,ntmps6;go_upto_region 2 with(first|(go_at_call 11;(with_reducible refine(KS.out _).mono ?_);rintro r9 w1 ⟨a1,b1,d1,rfl,hc1,hb1⟩;have HC1:=Aa hc1;have HB1:=Aa hb1;clear hc1 hb1)|(go_at_call 4;(with_reducible refine(K1.out _ _ _ _ _ HC1.out).mono ?_);rintro r9 w2 ⟨rfl,hb2⟩;have HB2:=Aa (bel HB1.out hb2);clear hb2))
 clear HC1 HB1 K1;go_upto_region 3 with(first|(go_at_call 11;(with_reducible refine(KS.out _).mono ?_);rintro r9 w3 ⟨a1,b1,d1,rfl,hc1,hb1⟩;have HC3:=Aa hc1;have HB3:=Aa (bel HB2.out hb1);clear hc1 hb1)|(go_at_call 12;(with_reducible refine(K2.out _ _ _ _ _ HC3.out).mono ?_);rintro r9 w4 ⟨rfl,hb2⟩;have HB4:=Aa (bel HB3.out hb2);clear hb2))
 clear HC3 HB2 HB3 K2;go_upto_region 4 with(first|(go_at_call 11;(with_reducible refine(KS.out _).mono ?_);rintro r9 w5 ⟨a1,b1,d1,rfl,hc1,hb1⟩;have HC5:=Aa hc1;have HB5:=Aa (bel HB4.out hb1);clear hc1 hb1)|(go_at_call 13;(with_reducible refine(K3.out _ _ _ _ _ HC5.out).mono ?_);rintro r9 w6 ⟨rfl,hb2⟩;have HB6:=Aa (bel HB5.out hb2);clear hb2))
 clear HC5 HB4 HB5 K3;go_wp2_with(first
  |(go_at_call 11;(with_reducible refine(KS.out _).mono ?_);rintro r9 w7 ⟨a1,b1,d1,rfl,hc1,hb1⟩;have HC7:=Aa hc1;have HB7:=Aa (bel HB6.out hb1);clear hc1 hb1)
  |(go_at_call 14;(with_reducible refine(K4.out _ _ _ _ _ HC7.out).mono ?_);rintro r9 w8 ⟨rfl,hb2⟩;have HB8:=Aa (bel HB7.out hb2);clear hb2)
  |(go_at_call 14;(with_reducible refine(K6.out _).mono ?_);rintro r9 w9 ⟨rfl,hb2⟩;have HB9:=Aa (bel HB8.out hb2);clear hb2))
 refine bodyPost_ret (by simp[results,results6,go_sem, *];try rfl) rfl ?_;exact⟨by first|rfl|simp,HB9.out⟩
section
open Go.ChangeShapes Go.WideShapes Go.ChangeAt Go.RowKit
theorem Qv:Tryz.prog.cellsOf 53=1:=kR
theorem OJ:Tryz.prog.cellsOf 96=1:=kR
theorem Qu:Tryz.prog.bytesOf 53=4:=kR
theorem OI:Tryz.prog.bytesOf 96=24:=kR
structure St where
 gv:Value
 pv:Value
 G:List (List Int)
 P:List (List Int)
def WP(s:St):List Value:=[s.gv,s.pv]
structure VL where
 v:Value
 l:List Int
def Y3(x:VL):List Value:=[x.v]
instance:Inhabited St:=⟨⟨.slice none 0 0,.slice none 0 0,[],[]⟩⟩
instance:Inhabited VL:=⟨⟨.slice none 0 0,[]⟩⟩
def PU(w:World):Nat->Prop:=fun b=>w.heap.size<=b
def We(w:World)(x:VL):Prop:=Pt (PU w) w x.v x.l/\x.l.length<=140737488351232/\∀y∈x.l,Ar y
def SI(w:World)(s:St):Prop:=Fe (PU w) w s.gv s.G/\Fe (PU w) w s.pv s.P/\GJ s.G/\GJ s.P
theorem IW{α:Type}{k:Nat}{f:α->List Value}{w:World}{v:Value}{l:List α}(hk:0<k)(hf:∀x,(f x).length=k)(h:Bj k f w v l):F6 (PU w) k f w v l:=by
 obtain⟨p,c,e,h⟩:=h;by_cases h0:l=[]
 .exact⟨p,c,e,.inl h0⟩
 .rcases h with h|⟨b,o,hp,hc⟩
  .exact absurd h h0
  .have hl:0<l.length:=List.length_pos_iff.2 h0;have hb:b<w.heap.size:=by
    have h1:=hc 0 hl;have h2:0<(f l[0]).length:=by rw[hf];exact hk
    exact A3 (h1 0 h2)
   exact⟨p,c,e,.inr ⟨b,o,hp,Nat.not_le.2 hb,hb,hc⟩⟩
section
variable {H : Type} {enc : TypeId × Value -> H} {w : World} {base : Nat} {held : Bool}
theorem TU{fuel:Nat}{cs:List Value}{x:DataW H×List MemPlace}(h:DataW.trod enc Tryz.prog w base (fun _=>true) held fuel 53 cs=some x):∃a:Int,cs=Xm a/\Ar a:=by
 obtain⟨a,c,-,w0⟩:=DataW.trod_int Tryz.underlying53 h;exact⟨a,c,(bounds_u32 w0).1,Int.lt_add_one_of_le (bounds_u32 w0).2⟩
theorem TX{fuel:Nat}{cs:List Value}{x:DataW H×List MemPlace}(h:DataW.trod enc Tryz.prog w base (fun _=>true) held fuel 96 cs=some x)(hw:∀n∈x.1.weights Tryz.prog 96,n<=reachBytes):∃a:VL,cs=Y3 a/\We w a:=by
 obtain⟨v,rfl⟩:∃v,cs=[v]:=by
  rcases DataW.trod_slice Tryz.underlying96 h with⟨hcs,_⟩|⟨a,len,cap,elems,rest,m,hm,hcs,_⟩
  .exact⟨_,hcs⟩
  .exact⟨_,hcs⟩
 obtain⟨l,hr,hlen,hg⟩:=Co (f:=Xm) (k:=1) (Good:=Ar) dE (fun _=>rfl) Tryz.underlying96 Qv Qu dE (fun h _=>TU h) h hw;exact⟨⟨v,l⟩,rfl,IW dE (fun _=>rfl) hr,by show l.length<=_;omega,hg⟩
theorem Kp{fuel:Nat}{v:Value}{x:DataW H×List MemPlace}(h:DataW.trod enc Tryz.prog w base (fun _=>true) held fuel 39 [v]=some x)(hw:∀n∈x.1.weights Tryz.prog 39,n<=reachBytes):∃L,Fe (PU w) w v L/\GJ L:=by
 obtain⟨l,hr,hlen,hg⟩:=Co (f:=Y3) (k:=1) (Good:=We w) dE (fun _=>rfl) Tryz.underlying39 OJ OI dE (fun h hw=>TX h hw) h hw;obtain⟨p,c,rfl,hh⟩:=IW (k:=1) (f:=Y3) dE (fun _=>rfl) hr;refine⟨l.map VL.l,⟨p,c,sM,?_⟩,⟨sO,?_,?_⟩⟩
 .rcases hh with rfl|⟨b,o,hp,hT,hb,hc⟩
  .exact .inl rfl
  .refine .inr ⟨b,o,hp,hT,hb,fun i hi=>?_⟩;have hi':i<l.length:=by simpa using hi
   refine⟨(l[i]).v,?_,?_⟩
   .have:=(hc i hi').at 0 rfl;simpa using this
   .simpa using(hg l[i] (gD hi')).1
 .intro y hy;obtain⟨a,ha,rfl⟩:=List.mem_map.1 hy;exact(hg a ha).2.1
 .intro y hy z hz;obtain⟨a,ha,rfl⟩:=List.mem_map.1 hy;exact(hg a ha).2.2 z hz
end
end
section
open Go.ChangeShapes Go.WideShapes Go.ChangeAt Go.RowKit
section
variable {H : Type} {enc : TypeId × Value -> H} {w : World} {base : Nat} {held : Bool}
theorem FC:Tryz.prog.cellsOf 43=2:=kR
theorem Jk:Tryz.prog.bytesOf 43=48:=kR
theorem QN{fuel:Nat}{cs:List Value}{x:DataW H×List MemPlace}(h:DataW.trod enc Tryz.prog w base (fun _=>true) held fuel 43 cs=some x)(hw:∀n∈x.1.weights Tryz.prog 43,n<=reachBytes):∃s:St,cs=WP s/\SI w s:=by
 obtain⟨xs,n,hfn,hx,hl,hxl,hf⟩:=DataW.trod_struct Tryz.underlying43 h;rw[FC]at hl
 match cs,hl with
 |[v0,v1],_=>
 match xs,hxl with
 |[y0,y1],_=>
  have e0:DataW.trod enc Tryz.prog w base (fun _=>true) held n 39 [v0]=some y0:=hf 0 _ rfl;have e1:DataW.trod enc Tryz.prog w base (fun _=>true) held n 39 [v1]=some y1:=hf 1 _ rfl;subst hx;have hws:∀ (j:Nat) (t:TypeId) (d:DataW H),[39,39][j]? =some t->[y0.1,y1.1][j]? =some d->∀n∈d.weights Tryz.prog t,n<=reachBytes:=fun j t d ht hd n hn=>by
   refine hw n ?_;show n∈DataW.weights Tryz.prog 43 (.agg [y0.1,y1.1]);rw[DataW.weights,Tryz.underlying43];exact DataW.weights_mem_each (ts:=[39,39]) ht hd n hn
  obtain⟨G,g1,g2⟩:=Kp e0 (hws 0 _ _ rfl rfl);obtain⟨P,p1,p2⟩:=Kp e1 (hws 1 _ _ rfl rfl);exact⟨⟨v0,v1,G,P⟩,rfl,g1,p1,g2,p2⟩
theorem Ko{r:Reach}{b0:Nat}{v:Value}{d:DataW H}{pl:List MemPlace}(hv:Value.okWide Tryz.prog w r b0 28 v)(h:DataW.Trod enc Tryz.prog w base (fun _=>true) held 28 v d pl)(hw:∀n∈d.weights Tryz.prog 28,n<=reachBytes):
 ∃l:List St,Bj 2 WP w v l/\l.length<=140737488351232/\∀s∈l,SI w s:=by
 obtain⟨p,n,c,rfl⟩:=okWide_slice Tryz.underlying28 hv;obtain⟨fuel,hf0⟩:=h;obtain⟨l,g1,g2,g3⟩:=Co (f:=WP) (k:=2) (Good:=SI w) dE (fun _=>rfl) Tryz.underlying28 FC Jk dE (fun h hw=>QN h hw) (v:=.slice p n c) (x:=(d,pl)) hf0 hw;exact⟨l,g1,oM,g3⟩
end
end
end Go.Proofs.YtheanilpbnencaaGreat
