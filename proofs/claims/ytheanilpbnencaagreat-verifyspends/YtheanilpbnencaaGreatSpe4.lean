import Ieee.Arith
import Derived.Laws.FloatBits
import Derived.Below
import Derived.Test.YtheanilpbnencaaGreatSpe1
namespace Go.Proofs.YtheanilpbnencaaGreat
open Go.RowKit Go.Proofs.Tryz
set_option linter.all false
set_option maxRecDepth 100000
set_option maxHeartbeats 16000000
def V(p k:Nat):Nat:=if k<2^p then k else(2^p+k%2^p)*2^(k/2^p-1)
theorem Fl(p t k:Nat)(h:k<=2*2^p)(h':t=0\/2^p<=k):V p (t*2^p+k)=k*2^t:=by
 unfold V;have hB:0<2^p:=Nat.two_pow_pos p;generalize 2^p=B at *;rcases Nat.lt_or_ge k B with c|c
 .have:t=0:=oM;subst this;simp[c]
 .have hge:¬ (t*B+k<B):=by have:=gI (t*B);omega
  rw[if_neg hge];rcases Nat.lt_or_ge k (2*B)with c2|c2
  .have e1:(t*B+k)%B=k-B:=by
    have:t*B+k=(k-B)+B*(t+1):=by rw[Nat.mul_add,Nat.mul_comm];omega
    rw[this,Nat.add_mul_mod_self_left,Nat.mod_eq_of_lt oM]
   have e2:(t*B+k)/B=t+1:=by
    have:t*B+k=(k-B)+B*(t+1):=by rw[Nat.mul_add,Nat.mul_comm];omega
    rw[this,Nat.add_mul_div_left _ _ hB,Nat.div_eq_of_lt oM];omega
   rw[e1,e2,show B+(k-B)=k by omega,Nat.add_sub_cancel]
  .have hk:k=2*B:=oM;subst hk;have e0:t*B+2*B=0+B*(t+2):=by rw[Nat.mul_add,Nat.mul_comm];omega
   rw[e0,Nat.add_mul_mod_self_left,Nat.add_mul_div_left _ _ hB,Nat.zero_mod,Nat.zero_div];rw[show 0+(t+2)-1=t+1 by omega,Nat.pow_succ]
   grind
theorem MI(p r:Nat):∃t k,r=t*2^p+k/\k<2*2^p/\(t=0\/2^p<=k)/\t=r/2^p-1:=by
 have hB:0<2^p:=Nat.two_pow_pos p;generalize 2^p=B at *;have hd:=Nat.div_add_mod r B;have hm:=Nat.mod_lt r hB;rcases Nat.lt_or_ge r B with c|c
 .exact⟨0,r,oM,oM,Or.inl rfl,by rw[Nat.div_eq_of_lt c]⟩
 .have:1<=r/B:=(Nat.le_div_iff_mul_le hB).2 oM;obtain⟨t,ht⟩:∃t,r/B=t+1:=⟨r/B-1,oM⟩
  refine⟨t,B+r%B,?_,oM,Or.inr oM,oM⟩;rw[ht,Nat.mul_add,Nat.mul_comm]at hd;omega
theorem J8(p r:Nat):V p (r+1)=V p r+2^(r/2^p-1):=by
 obtain⟨t,k,hr,hk,h,ht⟩:=MI p r;have e1:V p r=k*2^t:=by rw[hr];exact Fl p t k oM h
 have e2:V p (r+1)=(k+1)*2^t:=by rw[hr,Nat.add_assoc];exact Fl p t (k+1) oM oM
 rw[e1,e2,<-ht,Nat.add_mul,Nat.one_mul]
theorem G7(p r:Nat):V p r<V p (r+1):=by
 rw[J8];have:=Nat.two_pow_pos (r/2^p-1);omega
theorem G6(p:Nat){r s:Nat}(h:r<s):V p r<V p s:=by
 induction s with
 |zero=>omega
 |succ s ih=>
  rcases Nat.lt_or_ge r s with c|c
  .exact Nat.lt_trans (ih c) (G7 p s)
  .have:r=s:=oM;subst this;exact G7 p r
theorem PY(p:Nat){r s:Nat}(h:r<=s):V p r<=V p s:=by
 rcases Nat.lt_or_eq_of_le h with c|c
 .exact Nat.le_of_lt (G6 p c)
 .rw[c];exact gF _
theorem JP(p r s:Nat):V p r<V p s↔r<s:=by
 constructor
 .intro h;rcases Nat.lt_or_ge r s with c|c
  .exact c
  .have:=PY p c;omega
 .exact G6 p
theorem PX(p:Nat){r s:Nat}(h:V p r=V p s):r=s:=by
 rcases Nat.lt_trichotomy r s with c|c|c
 .have:=G6 p c;omega
 .exact c
 .have:=G6 p c;omega
theorem J9(p:Nat):V p 0=0:=by
 have hB:0<2^p:=Nat.two_pow_pos p;simp[V,hB]
structure F5(p n d r:Nat):Prop where
 up:2*n<=(V p r+V p (r+1))*d
 ue:2*n=(V p r+V p (r+1))*d->r%2=0
 dn:∀q,r=q+1->(V p q+V p r)*d<=2*n
 de:∀q,r=q+1->(V p q+V p r)*d=2*n->r%2=0
theorem F5.mono{p n d r n' d' r':Nat}(h:F5 p n d r)(h':F5 p n' d' r')(hd:0<d)(hd':0<d')(hn:n*d'<=n'*d):r<=r':=by
 rcases Nat.lt_or_ge r' r with c|c
 .exfalso;obtain⟨q,hq⟩:∃q,r=q+1:=⟨r-1,oM⟩
  have a1:=h.dn q hq;have a2:=h'.up;have b1:V p r'+V p (r'+1)<=V p q+V p r:=by
   have:=PY p (show r'<=q by omega);have:=PY p (show r'+1<=r by omega);omega
  have k1:(V p q+V p r)*(d*d')<=2*n*d':=by
   rw[<-Nat.mul_assoc];exact Nat.mul_le_mul_right _ a1
  have k2:2*n'*d<=(V p r'+V p (r'+1))*(d*d'):=by
   have:=Nat.mul_le_mul_right d a2;rw[Nat.mul_comm d d',<-Nat.mul_assoc];exact this
  have k3:2*n*d'<=2*n'*d:=by
   rw[Nat.mul_assoc,Nat.mul_assoc];exact Nat.mul_le_mul_left _ hn
  have k4:(V p r'+V p (r'+1))*(d*d')<=(V p q+V p r)*(d*d'):=Nat.mul_le_mul_right _ b1;have hdd:0<d*d':=Nat.mul_pos hd hd';have e4:(V p r'+V p (r'+1))*(d*d')=(V p q+V p r)*(d*d'):=oM;have e5:=Nat.eq_of_mul_eq_mul_right hdd e4;have hqr:r'=q:=by
   rcases Nat.lt_or_ge r' q with c2|c2
   .have:=G6 p c2;have:=PY p (show r'+1<=r by omega);omega
   .omega
  have e6:(V p q+V p r)*d*d'=2*n*d':=by rw[Nat.mul_assoc];omega
  have e7:2*n'*d=(V p r'+V p (r'+1))*d'*d:=by rw[Nat.mul_assoc _ d' d,Nat.mul_comm d' d];omega
  have p1:=h.de q hq (Nat.eq_of_mul_eq_mul_right hd' e6);have p2:=h'.ue (Nat.eq_of_mul_eq_mul_right hd e7);omega
 .exact c
theorem F5.unique{p n d r n' d' r':Nat}(h:F5 p n d r)(h':F5 p n' d' r')(hd:0<d)(hd':0<d')(hn:n*d'=n'*d):r=r':=
 Nat.le_antisymm (h.mono h' hd hd' oM) (h'.mono h hd' hd oM)
theorem Mm(p r d:Nat)(hd:0<d):F5 p (V p r*d) d r:=by
 have s1:=G7 p r;refine⟨?_,?_,?_,?_⟩
 .rw[<-Nat.mul_assoc];exact Nat.mul_le_mul_right _ oM
 .intro h;rw[<-Nat.mul_assoc]at h;have:=Nat.eq_of_mul_eq_mul_right hd h;omega
 .intro q hq;rw[<-Nat.mul_assoc];have:=G6 p (show q<r by omega);exact Nat.mul_le_mul_right _ oM
 .intro q hq h;rw[<-Nat.mul_assoc]at h;have:=Nat.eq_of_mul_eq_mul_right hd h;have:=G6 p (show q<r by omega);omega
structure SD(n d k t:Nat):Prop where
 up:2*n<=(2*k+1)*2^t*d
 ue:2*n=(2*k+1)*2^t*d->k%2=0
 dn:2*k*2^t*d<=2*n+2^t*d
 de:2*k*2^t*d=2*n+2^t*d->k%2=0
theorem SD.near{p n d k t:Nat}(h:SD n d k t)(hd:0<d)(hp:1<=p)(hr:t=0\/2^p*2^t*d<=n)(hu:n<2*2^p*2^t*d):
 F5 p n d (t*2^p+k)/\k<=2*2^p/\(t=0\/2^p<=k):=by
 have hT:0<2^t:=Nat.two_pow_pos t;have hB2:2^p%2=0:=by
  obtain⟨q,rfl⟩:∃q,p=q+1:=⟨p-1,oM⟩
  rw[Nat.pow_succ];omega
 have hB:0<2^p:=Nat.two_pow_pos p;have hTd:0<2^t*d:=Nat.mul_pos hT hd;have up:=h.up;have ue:=h.ue;have dn:=h.dn;have de:=h.de;simp only[Nat.mul_assoc]at up ue dn de hr hu;have kle:k<=2*2^p:=by
  rcases Nat.lt_or_ge (2*2^p) k with c|c
  .exfalso;have:(2*(2*2^p)+2)*(2^t*d)<=2*k*(2^t*d):=Nat.mul_le_mul_right _ oM;rw[Nat.mul_assoc 2 k]at this;rw[Nat.add_mul]at this;generalize 2^t*d=u at *;simp only[Nat.mul_assoc]at this;omega
  .exact c
 have kge:t=0\/2^p<=k:=by
  rcases hr with c|c
  .exact Or.inl c
  .right;rcases Nat.lt_or_ge k (2^p)with c2|c2
   .exfalso;have:(2*k+1)*(2^t*d)<=(2*2^p-1)*(2^t*d):=Nat.mul_le_mul_right _ oM;rw[Nat.sub_mul]at this;generalize 2^t*d=u at *;simp only[Nat.mul_assoc]at this;have h3:0<2^p*u:=Nat.mul_pos hB hTd;omega
   .exact c2
 refine⟨?_,kle,kge⟩;have par:(t*2^p+k)%2=k%2:=by
  have:(t*2^p)%2=0:=by rw[Nat.mul_mod,hB2,Nat.mul_zero,Nat.zero_mod]
  omega
 have vr:V p (t*2^p+k)=k*2^t:=Fl p t k kle kge;have vs:=J8 p (t*2^p+k);have sge:2^t<=2^((t*2^p+k)/2^p-1):=by
  exact Z1
 have seq:k<2*2^p->V p (t*2^p+k+1)=(k+1)*2^t:=by
  intro c;rw[Nat.add_assoc];exact Fl p t (k+1) oM oM
 have vs2:(k+1)*2^t<=V p (t*2^p+k+1):=by rw[vs,vr,Nat.add_mul];omega
 have upper:(2*k+1)*(2^t*d)<=(V p (t*2^p+k)+V p (t*2^p+k+1))*d:=by
  rw[<-Nat.mul_assoc];apply Nat.mul_le_mul_right;rw[vr];have:(2*k+1)*2^t=k*2^t+(k+1)*2^t:=by rw[<-Nat.add_mul];congr 1;omega
  omega
 refine⟨oM,?_,?_,?_⟩
 .intro e;rw[par];exact ue oM
 .intro q hq;have hk0:k≠0:=by
   intro k0;subst k0;rcases kge with c|c
   .subst c;omega
   .omega
  obtain⟨j,rfl⟩:∃j,k=j+1:=⟨k-1,oM⟩
  have hqj:q=t*2^p+j:=oM;rcases kge with c|c
  .subst c;have:V p q=j*2^0:=by rw[hqj];exact Fl p 0 j oM (Or.inl rfl)
   rw[vr,this];exact X8
  .rcases Nat.lt_or_ge j (2^p)with c2|c2
   ·--the lowest of a binade:the number is not below
    have hk:j+1=2^p:=oM;rcases hr with c3|c3
    .subst c3;have:V p q=j*2^0:=by rw[hqj];exact Fl p 0 j oM (Or.inl rfl)
     rw[vr,this];exact X8
    .have:=G6 p (show q<t*2^p+(j+1) by omega);have l:(V p q+V p (t*2^p+(j+1)))*d<=(2*(2^p*2^t))*d:=by
      apply Nat.mul_le_mul_right;rw[vr,hk]at *;omega
     simp only[Nat.mul_assoc]at l;omega
   .have:V p q=j*2^t:=by rw[hqj];exact Fl p t j oM (Or.inr c2)
    rw[vr,this];exact Za
 .intro q hq e;rw[par];have hk0:k≠0:=by
   intro k0;subst k0;rcases kge with c|c
   .subst c;omega
   .omega
  obtain⟨j,rfl⟩:∃j,k=j+1:=⟨k-1,oM⟩
  have hqj:q=t*2^p+j:=oM;rcases Nat.lt_or_ge j (2^p)with c2|c2
  .rcases hr with c3|c3
   .subst c3;have:V p q=j*2^0:=by rw[hqj];exact Fl p 0 j oM (Or.inl rfl)
    rw[vr,this]at e;apply de;exact X8
   .rcases kge with c4|c4
    .subst c4;have:V p q=j*2^0:=by rw[hqj];exact Fl p 0 j oM (Or.inl rfl)
     rw[vr,this]at e;apply de;exact X8
    .exfalso;have hk:j+1=2^p:=oM;have:=G6 p (show q<t*2^p+(j+1) by omega);have l:(V p q+V p (t*2^p+(j+1))+1)*d<=(2*(2^p*2^t))*d:=by
      apply Nat.mul_le_mul_right;rw[vr,hk]at *;omega
     rw[Nat.add_mul]at l;simp only[Nat.mul_assoc]at l;omega
  .have:V p q=j*2^t:=by rw[hqj];exact Fl p t j oM (Or.inr c2)
   rw[vr,this]at e;apply de;exact Za
theorem SD.scale{n k u:Nat}(h:SD n 1 k u)(b s t:Nat)(e:u+b=t+s):SD (n*2^b) (2^s) k t:=by
 have up:=h.up;have ue:=h.ue;have dn:=h.dn;have de:=h.de;simp only[Nat.mul_one]at up ue dn de;have hb:0<2^b:=Nat.two_pow_pos b;have ets:∀x:Nat,x*2^t*2^s=x*2^u*2^b:=by
  intro x;rw[Nat.mul_assoc,Nat.mul_assoc,<-Nat.pow_add,<-Nat.pow_add,e]
 have ets1:2^t*2^s=2^u*2^b:=by rw[<-Nat.pow_add,<-Nat.pow_add,e]
 refine⟨?_,?_,?_,?_⟩
 .rw[ets,<-Nat.mul_assoc];exact Nat.mul_le_mul_right _ up
 .rw[ets,<-Nat.mul_assoc];intro h;exact ue (Nat.eq_of_mul_eq_mul_right hb h)
 .rw[ets,ets1,<-Nat.mul_assoc,<-Nat.add_mul];exact Nat.mul_le_mul_right _ dn
 .rw[ets,ets1,<-Nat.mul_assoc,<-Nat.add_mul];intro h;exact de (Nat.eq_of_mul_eq_mul_right hb h)
theorem Vg{n k t G:Nat}(hG:2^t=G)(up:2*n<=(2*k+1)*G)(ue:2*n=(2*k+1)*G->k%2=0)(dn:2*k*G<=2*n+G)(de:2*k*G=2*n+G->k%2=0):SD n 1 k t:=by
 subst hG;exact⟨by simpa using up,by simpa using ue,by simpa using dn,by simpa using de⟩
theorem JY(neg:Bool)(n drop:Nat):SD n 1 (Ieee.Toward.even.cut neg n drop) drop:=by
 unfold Ieee.Toward.cut;simp only[Nat.one_shiftLeft];rcases Nat.lt_or_ge (n.log2+2) drop with c|c
 .rw[Nat.min_eq_right oM];have h1:n<2^(n.log2+1):=Nat.lt_log2_self;have h2:2^(n.log2+2)=2*2^(n.log2+1):=by rw[Nat.pow_succ];omega
  have h3:2^(n.log2+2)<=2^drop:=Nat.pow_le_pow_right oM oM;rw[Nat.div_eq_of_lt oM,Nat.mod_eq_of_lt oM];have e1:(decide (2^(n.log2+2)<2*n)||2^(n.log2+2)==2*n&&0%2==1)=false:=by
   have:¬ (2^(n.log2+2)<2*n):=oM;simp[this]
  rw[e1];refine⟨?_,?_,?_,?_⟩<;>simp<;>omega
 .rw[Nat.min_eq_left oM];have hG:0<2^drop:=Nat.two_pow_pos drop;have h1:=Nat.div_add_mod n (2^drop);have h2:=Nat.mod_lt n hG;generalize hq:n/2^drop=q at *;generalize hr:n%2^drop=r at *;generalize hGd:2^drop=G at *;clear hq hr;have h3:2*n=2*(q*G)+2*r:=by rw[Nat.mul_comm q G];omega
  have x0:(2*q+1)*G=2*(q*G)+G:=by rw[Nat.add_mul,Nat.mul_assoc];omega
  have x1:(2*(q+1)+1)*G=2*(q*G)+3*G:=by rw[show 2*(q+1)+1=2*q+3 by omega,Nat.add_mul,Nat.mul_assoc]
  have x2:2*q*G=2*(q*G):=Nat.mul_assoc ..;have x3:2*(q+1)*G=2*(q*G)+2*G:=by rw[show 2*(q+1)=2*q+2 by omega,Nat.add_mul,Nat.mul_assoc]
  refine Vg hGd ?_ ?_ ?_ ?_<;>clear hGd
  all_goals(
   by_cases c1:G<2*r
   .have e1:(decide (G<2*r)||G==2*r&&q%2==1)=true:=by simp[c1]
    rw[e1];simp only[Bool.toNat_true];omega
   .by_cases c2:G=2*r
    .by_cases c3:q%2=1
     .have e1:(decide (G<2*r)||G==2*r&&q%2==1)=true:=by simp[c2,c3]
      rw[e1];simp only[Bool.toNat_true];omega
     .have e1:(decide (G<2*r)||G==2*r&&q%2==1)=false:=by simp[c2];omega
      rw[e1];simp only[Bool.toNat_false,Nat.add_zero];omega
    .have e1:(decide (G<2*r)||G==2*r&&q%2==1)=false:=by simp[c1,c2]
     rw[e1]
     simp only[Bool.toNat_false,Nat.add_zero];omega)
def Bv(p:Nat)(L:Int)(mag:Nat)(place:Int):Nat:=
 if mag=0 then 0 else
 (max (place+mag.log2-p) L-L).toNat*2^p+Ieee.Toward.even.cut false (mag<<<(place-max (place+mag.log2-p) L).toNat) (max (place+mag.log2-p) L-place).toNat
theorem B9(f:Ieee.Format)(neg:Bool)(mag:Nat)(place:Int):
 f.nearest neg mag place=f.word neg (min (Bv f.fractionBits f.leastPlace mag place) f.infRung):=by
 unfold Ieee.Format.nearest Bv;by_cases h:mag=0
 .rw[if_pos h,if_pos h,Nat.zero_min]
 .rw[if_neg h,if_neg h];rfl
theorem I4(p:Nat)(L:Int)(mag:Nat)(place:Int)(h0:mag≠0):
 ∃t k j u:Nat,Bv p L mag place=t*2^p+k/\SD (mag*2^j) 1 k u/\(L+t+j:Int)=place+u/\(t=0\/(p+u:Int)=mag.log2+j)/\(mag.log2+j:Int)<=p+u/\(j=0\/u=0):=by
 unfold Bv;rw[if_neg h0];generalize hl:max (place+mag.log2-p) L=last;have hL:L<=last:=oM;have hq:place+mag.log2-p<=last:=oM;have hor:last=L\/last=place+mag.log2-p:=oM;rw[Nat.shiftLeft_eq];exact⟨(last-L).toNat,_,(place-last).toNat,(last-place).toNat,rfl,JY _ _ _,oM,oM,oM,oM⟩
theorem ED(p:Nat)(L:Int)(mag:Nat)(place:Int)(hp:1<=p)(a s:Nat)(h:(a:Int)=place-L+s):
 F5 p (mag*2^a) (2^s) (Bv p L mag place):=by
 by_cases h0:mag=0
 .subst h0;have:Bv p L 0 place=0:=by simp[Bv]
  rw[this];have:=Mm p 0 (2^s) (Nat.two_pow_pos s);rw[J9]at this;simpa using this
 .obtain⟨t,k,j,u,e,hc,e1,e2,e3,e4⟩:=I4 p L mag place h0;rw[e];have hb:j<=a+u:=oM;have hlo:2^mag.log2<=mag:=Nat.log2_self_le h0;have hhi:mag<2^(mag.log2+1):=Nat.lt_log2_self;have hcs:SD (mag*2^a) (2^s) k t:=by
   have:=hc.scale (a-j) s t oM;rwa[Nat.mul_assoc,<-Nat.pow_add,show j+(a-j)=a by omega]at this
  refine(hcs.near (Nat.two_pow_pos s) hp ?_ ?_).1
  .rcases e2 with c|c
   .exact Or.inl c
   .right;rw[<-Nat.pow_add,<-Nat.pow_add,show p+t+s=mag.log2+a by omega,Nat.pow_add];exact Nat.mul_le_mul_right _ hlo
  .have:2*2^p*2^t*2^s=2^(p+t+s+1):=by
    rw[Nat.pow_succ,Nat.pow_add,Nat.pow_add,Nat.mul_comm _ 2];simp only[Nat.mul_assoc]
   rw[this]
   calc mag*2^a<2^(mag.log2+1)*2^a:=Nat.mul_lt_mul_of_pos_right hhi (Nat.two_pow_pos a)
    _=2^(mag.log2+1+a):=(Nat.pow_add ..).symm
    _<=2^(p+t+s+1):=Nat.pow_le_pow_right oM oM
structure SE where
 le:Nat->Prop
 lt:Nat->Prop
 a1:∀c,lt c->le c
 a2:∀c c',c<c'->le c'->lt c
theorem SE.le_mono(X:SE){c c':Nat}(h:c<=c')(k:X.le c'):X.le c:=by
 rcases Nat.lt_or_eq_of_le h with e|e
 .exact X.a1 _ (X.a2 _ _ e k)
 .rw[e];exact k
structure Gr(p:Nat)(X:SE)(r:Nat):Prop where
 up:¬X.lt (V p r+V p (r+1))
 ue:X.le (V p r+V p (r+1))->r%2=0
 dn:∀q,r=q+1->X.le (V p q+V p r)
 de:∀q,r=q+1->¬X.lt (V p q+V p r)->r%2=0
theorem Gr.mono{p:Nat}{X Y:SE}{r r':Nat}(h:Gr p X r)(h':Gr p Y r')(hl:∀c,X.lt c->Y.lt c)(hle:∀c,X.le c->Y.le c):r<=r':=by
 rcases Nat.lt_or_ge r' r with c|c
 .exfalso;obtain⟨q,hq⟩:∃q,r=q+1:=⟨r-1,oM⟩
  have a1:=h.dn q hq;have a2:=h'.up;rcases Nat.lt_or_ge r' q with c2|c2
  .have:V p r'+V p (r'+1)<V p q+V p r:=by
    have:=G6 p c2;have:=PY p (show r'+1<=r by omega);omega
   exact a2 (Y.a2 _ _ this (hle _ a1))
  .have e:r'=q:=oM;subst e;subst hq;have e1:=h'.ue (hle _ a1);have e2:=h.de r' rfl (fun k=>a2 (hl _ k));omega
 .exact c
structure V6(X:SE)(k t:Nat):Prop where
 up:¬X.lt ((2*k+1)*2^t)
 ue:X.le ((2*k+1)*2^t)->k%2=0
 dn:∀j,k=j+1->X.le ((2*j+1)*2^t)
 de:∀j,k=j+1->¬X.lt ((2*j+1)*2^t)->k%2=0
theorem V6.near{p:Nat}{X:SE}{k t:Nat}(h:V6 X k t)(hp:1<=p)(hr:t=0\/X.le (2*(2^p*2^t)))(hu:¬X.le (4*(2^p*2^t))):
 Gr p X (t*2^p+k)/\k<=2*2^p/\(t=0\/2^p<=k):=by
 have hT:0<2^t:=Nat.two_pow_pos t;have hB2:2^p%2=0:=by
  obtain⟨q,rfl⟩:∃q,p=q+1:=⟨p-1,oM⟩
  rw[Nat.pow_succ];omega
 have hB:0<2^p:=Nat.two_pow_pos p;have kle:k<=2*2^p:=by
  rcases Nat.lt_or_ge (2*2^p) k with c|c
  .exfalso;obtain⟨j,rfl⟩:∃j,k=j+1:=⟨k-1,oM⟩
   refine hu (X.le_mono ?_ (h.dn j rfl));rw[<-Nat.mul_assoc];exact Nat.mul_le_mul_right _ oM
  .exact c
 have kge:t=0\/2^p<=k:=by
  rcases hr with c|c
  .exact Or.inl c
  .right;rcases Nat.lt_or_ge k (2^p)with c2|c2
   .exfalso;refine h.up (X.a2 _ _ ?_ c);rw[<-Nat.mul_assoc];exact Nat.mul_lt_mul_of_pos_right oM hT
   .exact c2
 refine⟨?_,kle,kge⟩;have par:(t*2^p+k)%2=k%2:=by
  have:(t*2^p)%2=0:=by rw[Nat.mul_mod,hB2,Nat.mul_zero,Nat.zero_mod]
  omega
 have vr:V p (t*2^p+k)=k*2^t:=Fl p t k kle kge;have vs:=J8 p (t*2^p+k);have sge:2^t<=2^((t*2^p+k)/2^p-1):=by
  exact Z1
 have up2:(2*k+1)*2^t<=V p (t*2^p+k)+V p (t*2^p+k+1):=by
  rw[vs,vr];have:(2*k+1)*2^t=k*2^t+k*2^t+2^t:=by rw[Nat.add_mul,Nat.mul_assoc];omega
  omega
 have low:∀q,t*2^p+k=q+1->∃j,k=j+1/\(V p q+V p (t*2^p+k)=(2*j+1)*2^t\/(V p q+V p (t*2^p+k)<2*(2^p*2^t)/\X.le (2*(2^p*2^t)))):=by
  intro q hq;have hk0:k≠0:=by
   intro k0;subst k0;rcases kge with c|c
   .subst c;omega
   .omega
  obtain⟨j,rfl⟩:∃j,k=j+1:=⟨k-1,oM⟩
  refine⟨j,rfl,?_⟩;have hqj:q=t*2^p+j:=oM;rcases Nat.lt_or_ge j (2^p)with c2|c2
  .by_cases c3:t=0
   .left;have:V p q=j*2^t:=by rw[hqj];exact Fl p t j oM (Or.inl c3)
    rw[vr,this,<-Nat.add_mul];congr 1;omega
   .right;have hk:j+1=2^p:=oM;refine⟨?_,hr.resolve_left c3⟩;have:=G6 p (show q<t*2^p+(j+1) by omega);rw[vr,hk]at this |-;omega
  .left;have:V p q=j*2^t:=by rw[hqj];exact Fl p t j oM (Or.inr c2)
   rw[vr,this,<-Nat.add_mul];congr 1;omega
 refine⟨?_,?_,?_,?_⟩
 .intro k1;exact h.up (by
   rcases Nat.lt_or_eq_of_le up2 with e|e
   .exact X.a2 _ _ e (X.a1 _ k1)
   .rw[e];exact k1)
 .intro k1;rw[par];exact h.ue (X.le_mono up2 k1)
 .intro q hq;obtain⟨j,hj,e|⟨e,e2⟩⟩:=low q hq
  .rw[e];exact h.dn j hj
  .exact X.a1 _ (X.a2 _ _ e e2)
 .intro q hq k1;rw[par];obtain⟨j,hj,e|⟨e,e2⟩⟩:=low q hq
  .rw[e]at k1;exact h.de j hj k1
  .exact absurd (X.a2 _ _ e e2) k1
def Uk(n:Nat):SE where
 le c:=c*c<=4*n
 lt c:=c*c<4*n
 a1:=fun c h=>Nat.le_of_lt h
 a2:=fun c c' h k=>Nat.lt_of_lt_of_le (Nat.mul_self_lt_mul_self h) k
def Vy(n d:Nat)(hd:0<d):SE where
 le c:=c*d<=2*n
 lt c:=c*d<2*n
 a1:=fun c h=>Nat.le_of_lt h
 a2:=fun c c' h k=>Nat.lt_of_lt_of_le (Nat.mul_lt_mul_of_pos_right h hd) k
theorem QB{p n d r:Nat}(hd:0<d):F5 p n d r↔Gr p (Vy n d hd) r:=by
 constructor
 .intro h;refine⟨?_,?_,?_,?_⟩
  .exact Nat.not_lt.2 h.up
  .intro k;exact h.ue (Nat.le_antisymm h.up k)
  .exact h.dn
  .intro q hq k;exact h.de q hq (Nat.le_antisymm (h.dn q hq) (Nat.not_lt.1 k))
 .intro h;refine⟨?_,?_,?_,?_⟩
  .exact Nat.not_lt.1 h.up
  .intro k;exact h.ue (Nat.le_of_eq k.symm)
  .exact h.dn
  .intro q hq k;exact h.de q hq (Nat.not_lt.2 (Nat.le_of_eq k.symm))
def Gs(p n r:Nat):Prop:=Gr p (Uk n) r
theorem Gs.mono{p n n' r r':Nat}(h:Gs p n r)(h':Gs p n' r')(hn:n<=n'):r<=r':=
 Gr.mono h h' (fun c (k:c*c<4*n)=>show c*c<4*n' by omega) (fun c (k:c*c<=4*n)=>show c*c<=4*n' by omega)
theorem Gs.unique{p n r r':Nat}(h:Gs p n r)(h':Gs p n r'):r=r':=
 Nat.le_antisymm (h.mono h' (gF _)) (h'.mono h (gF _))
theorem GA(p:Nat)(L:Int)(mag:Nat)(place:Int)(hp:1<=p)(big:p+2<=mag.log2)(a:Nat)(b:Nat)(h:(a:Int)+L=place+b)(X:SE)
 (st:∀c u:Nat,u+a=c+b->2<=u->∀k,(X.lt (k*2^c)↔k*2^u<2*mag)/\(X.le (k*2^c)↔k*2^u<=2*mag)):Gr p X (Bv p L mag place):=by
 have h0:mag≠0:=by intro e;subst e;simp[Nat.log2_zero]at big
 obtain⟨t,k,j,u,e,hc,e1,e2,e3,e4⟩:=I4 p L mag place h0;have hj:j=0:=oM;subst hj;have hu2:2<=u:=oM;have htu:u+a=t+b:=oM;simp only[Nat.pow_zero,Nat.mul_one]at hc;rw[e];have hlo:2^mag.log2<=mag:=Nat.log2_self_le h0;have hhi:mag<2^(mag.log2+1):=Nat.lt_log2_self;have S:=st t u htu hu2;have up:=hc.up;have ue:=hc.ue;have dn:=hc.dn;have de:=hc.de;simp only[Nat.mul_one]at up ue dn de;have pc:V6 X k t:=by
  refine⟨?_,?_,?_,?_⟩
  .rw[(S _).1];omega
  .rw[(S _).2];intro q;exact ue oM
  .intro j hj;rw[(S _).2];subst hj;have:2*(j+1)*2^u=(2*j+1)*2^u+2^u:=by rw[<-Nat.succ_mul];rfl
   omega
  .intro j hj;rw[(S _).1];subst hj;have:2*(j+1)*2^u=(2*j+1)*2^u+2^u:=by rw[<-Nat.succ_mul];rfl
   intro q;exact de oM
 refine(pc.near hp ?_ ?_).1
 .rcases e2 with c|c
  .exact Or.inl c
  .right;rw[<-Nat.mul_assoc,(S _).2,Nat.mul_assoc,<-Nat.pow_add];have:p+u=mag.log2:=oM;rw[this];omega
 .rw[<-Nat.mul_assoc,(S _).2];have:2^(mag.log2+1)<=2^(p+u+1):=Nat.pow_le_pow_right oM oM;rw[Nat.mul_assoc,<-Nat.pow_add];rw[Nat.pow_succ]at this;omega
def ng(a:Nat):Bool:=a/2147483648%2==1
def rg(a:Nat):Nat:=a%2147483648
def mg(a:Nat):Nat:=if rg a<8388608 then rg a else 8388608+rg a%8388608
def te(a:Nat):Nat:=rg a/8388608-1
def mv(a:Nat):Nat:=V 23 (rg a)
def sg(s:Bool)(m:Nat):Int:=if s then -(m:Int)else m
def sv(a:Nat):Int:=sg (ng a) (mv a)
def wd(s:Bool)(r:Nat):Nat:=if s then 2147483648+min r 2139095040 else min r 2139095040
def R(n:Nat):Nat:=Bv 23 (-149) n (-149)
theorem Gy(a:Nat):mv a=mg a*2^te a:=by
 unfold mv V mg te;by_cases h:rg a<8388608
 .rw[if_pos h,if_pos h,Nat.div_eq_of_lt h];simp
 .rw[if_neg h,if_neg h]
theorem Qz(a:Nat):mg a<16777216:=by
 unfold mg;split<;>omega
theorem Bo:Ieee.single.leastPlace= -149:=rfl
theorem Cr:Ieee.single.fractionBits=23:=rfl
theorem GZ(s:Bool)(r:Nat):Ieee.single.word s (min r Ieee.single.infRung)=wd s r:=rfl
theorem CG(a:Nat):Ieee.single.read a=if rg a<8388608 then .number (ng a) (rg a) (-149)else if rg a<2139095040 then .number (ng a) (8388608+rg a%8388608) (-149+((rg a/8388608-1:Nat):Int))else if rg a=2139095040 then .infinity (ng a)else .nan (ng a) (rg a-2139095040):=rfl
theorem BB(a:Nat)(h:rg a<2139095040):Ieee.single.read a=.number (ng a) (mg a) (-149+(te a:Int)):=by
 rw[CG];unfold mg te;by_cases c:rg a<8388608
 .rw[if_pos c,if_pos c,Nat.div_eq_of_lt c];simp
 .rw[if_neg c,if_pos h,if_neg c]
theorem Dd(a:Nat)(h:rg a=2139095040):Ieee.single.read a=.infinity (ng a):=by
 rw[CG,if_neg oM,if_neg oM,if_pos h]
theorem De(a:Nat)(h:2139095040<rg a):Ieee.single.read a=.nan (ng a) (rg a-2139095040):=by
 rw[CG,if_neg oM,if_neg oM,if_neg oM]
theorem Vr(n:Nat):F5 23 n 1 (R n):=by
 have:=ED 23 (-149) n (-149) dE 0 0 dE;simpa[R]using this
theorem KZ(m:Nat)(t:Nat):Bv 23 (-149) m (-149+(t:Int))=R (m*2^t):=by
 have h1:=ED 23 (-149) m (-149+(t:Int)) dE t 0 sO;exact h1.unique (Vr (m*2^t)) dE dE sM
theorem I8(s:Bool)(m u c:Nat):Ieee.signed s m u*(2:Int)^c=sg s (m*2^(u+c)):=by
 unfold Ieee.signed sg;have e:((m<<<u:Nat):Int)*2^c=((m*2^(u+c):Nat):Int):=by
  rw[Nat.shiftLeft_eq,Nat.pow_add,<-Nat.mul_assoc];push_cast;rfl
 cases s
 .simpa using e
 .simp only[if_true];rw[Int.neg_mul,e]
theorem IP(m n more:Nat)(hn:0<n)(place:Int)(big:25<=(2*((m<<<more)/n)+((m<<<more)%n != 0).toNat).log2)(a s:Nat)(h:(a:Int)=place+more+1+149+s)(hma:more<=a):
 F5 23 (m*2^a) (n*2^s) (Bv 23 (-149) (2*((m<<<more)/n)+((m<<<more)%n != 0).toNat) place):=by
 have hd:0<n*2^s:=Nat.mul_pos hn (Nat.two_pow_pos s);rw[QB hd];refine GA 23 (-149) _ place dE big a (more+1+s) (by push_cast;omega) _ ?_;intro c u hcu hu k;rw[Nat.shiftLeft_eq]at *;have hm:=Nat.div_add_mod (m*2^more) n;have hl:=Nat.mod_lt (m*2^more) hn;generalize hq:m*2^more/n=q at *;generalize hr:m*2^more%n=r at *;obtain⟨v,rfl⟩:∃v,u=v+2:=⟨u-2,oM⟩
 have hb:(r != 0).toNat=if r=0 then 0 else 1:=by by_cases c:r=0<;>simp[c]
 rw[hb];have e1:k*2^c*(n*2^s)=(k*2^v*n)*2^(s+c-v):=by
  have:2^c*2^s=2^v*2^(s+c-v):=by rw[<-Nat.pow_add,<-Nat.pow_add];congr 1;omega
  calc k*2^c*(n*2^s)=k*n*(2^c*2^s):=by grind
   _=k*n*(2^v*2^(s+c-v)):=by rw[this]
   _=_:=by grind
 have e2:2*(m*2^a)=(m*2^more)*2^(s+c-v):=by
  have:2^a*2=2^more*2^(s+c-v):=by rw[<-Nat.pow_succ,<-Nat.pow_add];congr 1;omega
  calc 2*(m*2^a)=m*(2^a*2):=by grind
   _=_:=by rw[this,Nat.mul_assoc]
 have hP:0<2^(s+c-v):=Nat.two_pow_pos _;have e3:k*2^(v+2)=4*(k*2^v):=by rw[Nat.pow_succ,Nat.pow_succ];grind
 show(k*2^c*(n*2^s)<2*(m*2^a)↔_)/\(k*2^c*(n*2^s)<=2*(m*2^a)↔_);rw[e1,e2,e3,Nat.mul_lt_mul_right hP,Nat.mul_le_mul_right_iff hP];generalize k*2^v=K;generalize m*2^more=M at *;have l1:K<q->K*n+n<=n*q:=fun h=>by
  have:=Nat.mul_le_mul_left n (show K+1<=q from h);rw[Nat.mul_add,Nat.mul_one,Nat.mul_comm n K]at this;exact this
 have l2:q<K->n*q+n<=K*n:=fun h=>by
  have:=Nat.mul_le_mul_left n (show q+1<=K from h);rw[Nat.mul_add,Nat.mul_one,Nat.mul_comm n K]at this;exact this
 have l3:q=K->n*q=K*n:=fun h=>by rw[h,Nat.mul_comm]
 rcases Nat.lt_trichotomy K q with d|d|d
 .have:=l1 d;by_cases r0:r=0<;>simp only[r0,if_true,if_false]<;>omega
 .have:=l3 d.symm;by_cases r0:r=0<;>simp only[r0,if_true,if_false]<;>omega
 .have:=l2 d;by_cases r0:r=0<;>simp only[r0,if_true,if_false]<;>omega
theorem Ib{m n more j:Nat}(hn:0<n)(h:n*2^j<=m*2^more):j+1<=(2*((m<<<more)/n)+((m<<<more)%n != 0).toNat).log2:=by
 rw[Nat.shiftLeft_eq];have:2^j<=m*2^more/n:=(Nat.le_div_iff_mul_le hn).2 (by rw[Nat.mul_comm];exact h);generalize m*2^more/n=q at *;generalize (m*2^more%n != 0).toNat=b;have hp:=Nat.two_pow_pos j;apply(Nat.le_log2 oM).2;rw[Nat.pow_succ];omega
theorem Te(a b:Nat)(ha:rg a<2139095040)(hb:rg b<2139095040)(ha0:mg a≠0)(hb0:mg b≠0):
 ∃r,Ieee.single.div a b=some (wd (ng a^^ng b) r)/\F5 23 (mv a*2^149) (mv b) r:=by
 unfold Ieee.Format.div;rw[BB a ha,BB b hb];simp only[Ieee.Datum.quotient,Option.map_some,Ieee.Format.write,if_neg hb0];rw[B9];refine⟨_,rfl,?_⟩;rw[Bo,Cr];generalize hmore:23+2+(mg b).log2-(mg a).log2=more;have hbp:0<mg b:=Nat.pos_of_ne_zero hb0;have hla:(mg a).log2<=23:=by
  have:(mg a).log2<24:=(Nat.log2_lt ha0).2 (Qz a);omega
 have big:25<=(2*((mg a<<<more)/mg b)+((mg a<<<more)%mg b != 0).toNat).log2:=by
  refine Ib hbp (j:=24) ?_;have h1:mg b<2^((mg b).log2+1):=Nat.lt_log2_self;have h2:2^(mg a).log2<=mg a:=Nat.log2_self_le ha0
  calc mg b*2^24<=2^((mg b).log2+1)*2^24:=Nat.mul_le_mul_right _ (Nat.le_of_lt h1)
   _=2^(mg a).log2*2^more:=by rw[<-Nat.pow_add,<-Nat.pow_add];congr 1;omega
   _<=mg a*2^more:=Nat.mul_le_mul_right _ h2
 have:=IP (mg a) (mg b) more hbp (-149+(te a:Int)-(-149+(te b:Int))-(more:Nat)-1) big (149+te a) (te b) (by push_cast;omega) (by have:(mg b).log2<24:=(Nat.log2_lt hb0).2 (Qz b);omega);rw[Gy,Gy];rw[show mg a*2^te a*2^149=mg a*2^(149+te a) by rw[Nat.mul_assoc,<-Nat.pow_add,Nat.add_comm]];exact this
theorem Gg(n:Nat):∀ (todo root:Nat),root*root<=n->n<(root+2^todo)*(root+2^todo)->
 Ieee.Datum.rootFrom n todo root*Ieee.Datum.rootFrom n todo root<=n/\n<(Ieee.Datum.rootFrom n todo root+1)*(Ieee.Datum.rootFrom n todo root+1)
 |0,root,h1,h2=>by simpa[Ieee.Datum.rootFrom]using⟨h1,h2⟩
 |todo+1,root,h1,h2=>by
  unfold Ieee.Datum.rootFrom;simp only[Nat.shiftLeft_eq,Nat.one_mul];by_cases c:(root+2^todo)*(root+2^todo)<=n
  .rw[if_pos c];refine Gg n todo _ c ?_;rw[Nat.pow_succ]at h2;rw[show root+2^todo+2^todo=root+2^todo*2 by omega];exact h2
  .rw[if_neg c];exact Gg n todo root h1 oM
theorem IQ(p:Nat)(L:Int)(w n:Nat)(place:Int)(hp:1<=p)(h1:w*w<=n)(h2:n<(w+1)*(w+1))(big:p+2<=(2*w+(w*w != n).toNat).log2)(a:Nat)(h:(a:Int)=place+1-L):
 Gs p (n*(2^a*2^a)) (Bv p L (2*w+(w*w != n).toNat) place):=by
 refine GA p L _ place hp big a 1 oM _ ?_;intro c u hcu hu k;obtain⟨v,rfl⟩:∃v,u=v+2:=⟨u-2,oM⟩
 have hc:c=v+1+a:=oM;subst hc;have hb:(w*w != n).toNat=if w*w=n then 0 else 1:=by by_cases c:w*w=n<;>simp[c]
 rw[hb];have hA:0<2^a*2^a:=Nat.mul_pos (Nat.two_pow_pos a) (Nat.two_pow_pos a);have e1:k*2^(v+1+a)*(k*2^(v+1+a))=4*((k*2^v)*(k*2^v))*(2^a*2^a):=by
  rw[Nat.pow_add,Nat.pow_succ];grind
 have e2:4*(n*(2^a*2^a))=4*n*(2^a*2^a):=by rw[Nat.mul_assoc]
 have e3:k*2^(v+2)=4*(k*2^v):=by rw[Nat.pow_succ,Nat.pow_succ];grind
 show(k*2^(v+1+a)*(k*2^(v+1+a))<4*(n*(2^a*2^a))↔_)/\(k*2^(v+1+a)*(k*2^(v+1+a))<=4*(n*(2^a*2^a))↔_);rw[e1,e2,e3,Nat.mul_lt_mul_right hA,Nat.mul_le_mul_right_iff hA];generalize k*2^v=K;rcases Nat.lt_trichotomy K w with d|d|d
 .have:=Nat.mul_self_lt_mul_self d;by_cases e:w*w=n<;>simp only[e,if_true,if_false]<;>omega
 .subst d;by_cases e:K*K=n<;>simp only[e,if_true,if_false]<;>omega
 .have:=Nat.mul_self_le_mul_self (show w+1<=K from d);by_cases e:w*w=n<;>simp only[e,if_true,if_false]<;>omega
theorem H5{a b c:World}(h:Below a.heap.size a b)(k:Below b.heap.size b c):Below a.heap.size a c:=h.trans (k.mono h.size)
theorem Iw(w:World):Below w.heap.size w w:=Below.refl _ _
end Go.Proofs.YtheanilpbnencaaGreat
