import Ieee.Arith
import Derived.Laws.FloatBits
import Derived.Test.YtbinohkcolcbfaaGreatPart1
namespace Go.Proofs.YtbinohkcolcbfaaGreat
open Go.RowKit Go.Proofs.Tryz
set_option linter.unusedVariables false
set_option linter.unusedSimpArgs false
set_option maxRecDepth 100000
set_option maxHeartbeats 16000000
def V(p k:Nat):Nat:=if k<2^p then k else(2^p+k%2^p)*2^(k/2^p-1)
theorem V_at(p t k:Nat)(h:k<=2*2^p)(h':t=0\/2^p<=k):V p (t*2^p+k)=k*2^t:=by
 unfold V;have hB:0<2^p:=Nat.two_pow_pos p;generalize 2^p=B at *;rcases Nat.lt_or_ge k B with c|c
 ·have:t=0:=oM;subst this;simp[c]
 ·have hge:¬ (t*B+k<B):=by have:=Nat.zero_le (t*B);omega
  rw[if_neg hge];rcases Nat.lt_or_ge k (2*B)with c2|c2
  ·have e1:(t*B+k)%B=k-B:=by
    have:t*B+k=(k-B)+B*(t+1):=by rw[Nat.mul_add,Nat.mul_comm];omega
    rw[this,Nat.add_mul_mod_self_left,Nat.mod_eq_of_lt oM]
   have e2:(t*B+k)/B=t+1:=by
    have:t*B+k=(k-B)+B*(t+1):=by rw[Nat.mul_add,Nat.mul_comm];omega
    rw[this,Nat.add_mul_div_left _ _ hB,Nat.div_eq_of_lt oM];omega
   rw[e1,e2,show B+(k-B)=k by omega,Nat.add_sub_cancel]
  ·have hk:k=2*B:=oM;subst hk;have e0:t*B+2*B=0+B*(t+2):=by rw[Nat.mul_add,Nat.mul_comm];omega
   rw[e0,Nat.add_mul_mod_self_left,Nat.add_mul_div_left _ _ hB,Nat.zero_mod,Nat.zero_div];rw[show 0+(t+2)-1=t+1 by omega,Nat.pow_succ]
   grind
theorem Zsh(p r:Nat):∃t k,r=t*2^p+k/\k<2*2^p/\(t=0\/2^p<=k)/\t=r/2^p-1:=by
 have hB:0<2^p:=Nat.two_pow_pos p;generalize 2^p=B at *;have hd:=Nat.div_add_mod r B;have hm:=Nat.mod_lt r hB;rcases Nat.lt_or_ge r B with c|c
 ·exact⟨0,r,oM,oM,Or.inl rfl,by rw[Nat.div_eq_of_lt c]⟩
 ·have:1<=r/B:=(Nat.le_div_iff_mul_le hB).2 oM;obtain⟨t,ht⟩:∃t,r/B=t+1:=⟨r/B-1,oM⟩
  refine⟨t,B+r%B,?_,oM,Or.inr oM,oM⟩;rw[ht,Nat.mul_add,Nat.mul_comm]at hd;omega
theorem Zrr(p r:Nat):V p (r+1)=V p r+2^(r/2^p-1):=by
 obtain⟨t,k,hr,hk,h,ht⟩:=Zsh p r;have e1:V p r=k*2^t:=by rw[hr];exact V_at p t k oM h
 have e2:V p (r+1)=(k+1)*2^t:=by rw[hr,Nat.add_assoc];exact V_at p t (k+1) oM oM
 rw[e1,e2,←ht,Nat.add_mul,Nat.one_mul]
theorem Ztf(p r:Nat):V p r<V p (r+1):=by
 rw[Zrr];have:=Nat.two_pow_pos (r/2^p-1);omega
theorem V_lt(p:Nat){r s:Nat}(h:r<s):V p r<V p s:=by
 induction s with
 |zero=>omega
 |succ s ih=>
  rcases Nat.lt_or_ge r s with c|c
  ·exact Nat.lt_trans (ih c) (Ztf p s)
  ·have:r=s:=oM;subst this;exact Ztf p r
theorem V_le(p:Nat){r s:Nat}(h:r<=s):V p r<=V p s:=by
 rcases Nat.lt_or_eq_of_le h with c|c
 ·exact Nat.le_of_lt (V_lt p c)
 ·rw[c];exact Nat.le_refl _
theorem Zabj(p r s:Nat):V p r<V p s↔r<s:=by
 constructor
 ·intro h;rcases Nat.lt_or_ge r s with c|c
  ·exact c
  ·have:=V_le p c;omega
 ·exact V_lt p
theorem V_inj(p:Nat){r s:Nat}(h:V p r=V p s):r=s:=by
 rcases Nat.lt_trichotomy r s with c|c|c
 ·have:=V_lt p c;omega
 ·exact c
 ·have:=V_lt p c;omega
theorem Zpm(p:Nat):V p 0=0:=by
 have hB:0<2^p:=Nat.two_pow_pos p;simp[V,hB]
structure Near(p n d r:Nat):Prop where
 up:2*n<=(V p r+V p (r+1))*d
 ue:2*n=(V p r+V p (r+1))*d->r%2=0
 dn:∀q,r=q+1->(V p q+V p r)*d<=2*n
 de:∀q,r=q+1->(V p q+V p r)*d=2*n->r%2=0
theorem Near.mono{p n d r n' d' r':Nat}(h:Near p n d r)(h':Near p n' d' r')(hd:0<d)(hd':0<d')(hn:n*d'<=n'*d):r<=r':=by
 rcases Nat.lt_or_ge r' r with c|c
 ·exfalso;obtain⟨q,hq⟩:∃q,r=q+1:=⟨r-1,oM⟩
  have a1:=h.dn q hq;have a2:=h'.up;have b1:V p r'+V p (r'+1)<=V p q+V p r:=by
   have:=V_le p (show r'<=q by omega);have:=V_le p (show r'+1<=r by omega);omega
  have k1:(V p q+V p r)*(d*d')<=2*n*d':=by
   rw[←Nat.mul_assoc];exact Nat.mul_le_mul_right _ a1
  have k2:2*n'*d<=(V p r'+V p (r'+1))*(d*d'):=by
   have:=Nat.mul_le_mul_right d a2;rw[Nat.mul_comm d d',←Nat.mul_assoc];exact this
  have k3:2*n*d'<=2*n'*d:=by
   rw[Nat.mul_assoc,Nat.mul_assoc];exact Nat.mul_le_mul_left _ hn
  have k4:(V p r'+V p (r'+1))*(d*d')<=(V p q+V p r)*(d*d'):=Nat.mul_le_mul_right _ b1;have hdd:0<d*d':=Nat.mul_pos hd hd';have e4:(V p r'+V p (r'+1))*(d*d')=(V p q+V p r)*(d*d'):=oM;have e5:=Nat.eq_of_mul_eq_mul_right hdd e4;have hqr:r'=q:=by
   rcases Nat.lt_or_ge r' q with c2|c2
   ·have:=V_lt p c2;have:=V_le p (show r'+1<=r by omega);omega
   ·omega
  have e6:(V p q+V p r)*d*d'=2*n*d':=by rw[Nat.mul_assoc];omega
  have e7:2*n'*d=(V p r'+V p (r'+1))*d'*d:=by rw[Nat.mul_assoc _ d' d,Nat.mul_comm d' d];omega
  have p1:=h.de q hq (Nat.eq_of_mul_eq_mul_right hd' e6);have p2:=h'.ue (Nat.eq_of_mul_eq_mul_right hd e7);omega
 ·exact c
theorem Near.unique{p n d r n' d' r':Nat}(h:Near p n d r)(h':Near p n' d' r')(hd:0<d)(hd':0<d')(hn:n*d'=n'*d):r=r':=
 Nat.le_antisymm (h.mono h' hd hd' oM) (h'.mono h hd' hd oM)
theorem Zvo(p r d:Nat)(hd:0<d):Near p (V p r*d) d r:=by
 have s1:=Ztf p r;refine⟨?_,?_,?_,?_⟩
 ·rw[←Nat.mul_assoc];exact Nat.mul_le_mul_right _ oM
 ·intro h;rw[←Nat.mul_assoc]at h;have:=Nat.eq_of_mul_eq_mul_right hd h;omega
 ·intro q hq;rw[←Nat.mul_assoc];have:=V_lt p (show q<r by omega);exact Nat.mul_le_mul_right _ oM
 ·intro q hq h;rw[←Nat.mul_assoc]at h;have:=Nat.eq_of_mul_eq_mul_right hd h;have:=V_lt p (show q<r by omega);omega
structure Cut(n d k t:Nat):Prop where
 up:2*n<=(2*k+1)*2^t*d
 ue:2*n=(2*k+1)*2^t*d->k%2=0
 dn:2*k*2^t*d<=2*n+2^t*d
 de:2*k*2^t*d=2*n+2^t*d->k%2=0
theorem Cut.near{p n d k t:Nat}(h:Cut n d k t)(hd:0<d)(hp:1<=p)(hr:t=0\/2^p*2^t*d<=n)(hu:n<2*2^p*2^t*d):
 Near p n d (t*2^p+k)/\k<=2*2^p/\(t=0\/2^p<=k):=by
 have hT:0<2^t:=Nat.two_pow_pos t;have hB2:2^p%2=0:=by
  obtain⟨q,rfl⟩:∃q,p=q+1:=⟨p-1,oM⟩
  rw[Nat.pow_succ];omega
 have hB:0<2^p:=Nat.two_pow_pos p;have hTd:0<2^t*d:=Nat.mul_pos hT hd;have up:=h.up;have ue:=h.ue;have dn:=h.dn;have de:=h.de;simp only[Nat.mul_assoc]at up ue dn de hr hu;have kle:k<=2*2^p:=by
  rcases Nat.lt_or_ge (2*2^p) k with c|c
  ·exfalso;have:(2*(2*2^p)+2)*(2^t*d)<=2*k*(2^t*d):=Nat.mul_le_mul_right _ oM;rw[Nat.mul_assoc 2 k]at this;rw[Nat.add_mul]at this;generalize 2^t*d=u at *;simp only[Nat.mul_assoc]at this;omega
  ·exact c
 have kge:t=0\/2^p<=k:=by
  rcases hr with c|c
  ·exact Or.inl c
  ·right;rcases Nat.lt_or_ge k (2^p)with c2|c2
   ·exfalso;have:(2*k+1)*(2^t*d)<=(2*2^p-1)*(2^t*d):=Nat.mul_le_mul_right _ oM;rw[Nat.sub_mul]at this;generalize 2^t*d=u at *;simp only[Nat.mul_assoc]at this;have h3:0<2^p*u:=Nat.mul_pos hB hTd;omega
   ·exact c2
 refine⟨?_,kle,kge⟩;have par:(t*2^p+k)%2=k%2:=by
  have:(t*2^p)%2=0:=by rw[Nat.mul_mod,hB2,Nat.mul_zero,Nat.zero_mod]
  omega
 have vr:V p (t*2^p+k)=k*2^t:=V_at p t k kle kge;have vs:=Zrr p (t*2^p+k);have sge:2^t<=2^((t*2^p+k)/2^p-1):=by
  exact Zes
 have seq:k<2*2^p->V p (t*2^p+k+1)=(k+1)*2^t:=by
  intro c;rw[Nat.add_assoc];exact V_at p t (k+1) oM oM
 have vs2:(k+1)*2^t<=V p (t*2^p+k+1):=by rw[vs,vr,Nat.add_mul];omega
 have upper:(2*k+1)*(2^t*d)<=(V p (t*2^p+k)+V p (t*2^p+k+1))*d:=by
  rw[←Nat.mul_assoc];apply Nat.mul_le_mul_right;rw[vr];have:(2*k+1)*2^t=k*2^t+(k+1)*2^t:=by rw[←Nat.add_mul];congr 1;omega
  omega
 refine⟨oM,?_,?_,?_⟩
 ·intro e;rw[par];exact ue oM
 ·intro q hq;have hk0:k≠0:=by
   intro k0;subst k0;rcases kge with c|c
   ·subst c;omega
   ·omega
  obtain⟨j,rfl⟩:∃j,k=j+1:=⟨k-1,oM⟩
  have hqj:q=t*2^p+j:=oM;rcases kge with c|c
  ·subst c;have:V p q=j*2^0:=by rw[hqj];exact V_at p 0 j oM (Or.inl rfl)
   rw[vr,this];exact Zcz
  ·rcases Nat.lt_or_ge j (2^p)with c2|c2
   ·--the lowest of a binade:the number is not below
    have hk:j+1=2^p:=oM;rcases hr with c3|c3
    ·subst c3;have:V p q=j*2^0:=by rw[hqj];exact V_at p 0 j oM (Or.inl rfl)
     rw[vr,this];exact Zcz
    ·have:=V_lt p (show q<t*2^p+(j+1) by omega);have l:(V p q+V p (t*2^p+(j+1)))*d<=(2*(2^p*2^t))*d:=by
      apply Nat.mul_le_mul_right;rw[vr,hk]at *;omega
     simp only[Nat.mul_assoc]at l;omega
   ·have:V p q=j*2^t:=by rw[hqj];exact V_at p t j oM (Or.inr c2)
    rw[vr,this];exact Zfl
 ·intro q hq e;rw[par];have hk0:k≠0:=by
   intro k0;subst k0;rcases kge with c|c
   ·subst c;omega
   ·omega
  obtain⟨j,rfl⟩:∃j,k=j+1:=⟨k-1,oM⟩
  have hqj:q=t*2^p+j:=oM;rcases Nat.lt_or_ge j (2^p)with c2|c2
  ·rcases hr with c3|c3
   ·subst c3;have:V p q=j*2^0:=by rw[hqj];exact V_at p 0 j oM (Or.inl rfl)
    rw[vr,this]at e;apply de;exact Zcz
   ·rcases kge with c4|c4
    ·subst c4;have:V p q=j*2^0:=by rw[hqj];exact V_at p 0 j oM (Or.inl rfl)
     rw[vr,this]at e;apply de;exact Zcz
    ·exfalso;have hk:j+1=2^p:=oM;have:=V_lt p (show q<t*2^p+(j+1) by omega);have l:(V p q+V p (t*2^p+(j+1))+1)*d<=(2*(2^p*2^t))*d:=by
      apply Nat.mul_le_mul_right;rw[vr,hk]at *;omega
     rw[Nat.add_mul]at l;simp only[Nat.mul_assoc]at l;omega
  ·have:V p q=j*2^t:=by rw[hqj];exact V_at p t j oM (Or.inr c2)
   rw[vr,this]at e;apply de;exact Zfl
theorem Cut.scale{n k u:Nat}(h:Cut n 1 k u)(b s t:Nat)(e:u+b=t+s):Cut (n*2^b) (2^s) k t:=by
 have up:=h.up;have ue:=h.ue;have dn:=h.dn;have de:=h.de;simp only[Nat.mul_one]at up ue dn de;have hb:0<2^b:=Nat.two_pow_pos b;have ets:∀x:Nat,x*2^t*2^s=x*2^u*2^b:=by
  intro x;rw[Nat.mul_assoc,Nat.mul_assoc,←Nat.pow_add,←Nat.pow_add,e]
 have ets1:2^t*2^s=2^u*2^b:=by rw[←Nat.pow_add,←Nat.pow_add,e]
 refine⟨?_,?_,?_,?_⟩
 ·rw[ets,←Nat.mul_assoc];exact Nat.mul_le_mul_right _ up
 ·rw[ets,←Nat.mul_assoc];intro h;exact ue (Nat.eq_of_mul_eq_mul_right hb h)
 ·rw[ets,ets1,←Nat.mul_assoc,←Nat.add_mul];exact Nat.mul_le_mul_right _ dn
 ·rw[ets,ets1,←Nat.mul_assoc,←Nat.add_mul];intro h;exact de (Nat.eq_of_mul_eq_mul_right hb h)
theorem cut_of{n k t G:Nat}(hG:2^t=G)(up:2*n<=(2*k+1)*G)(ue:2*n=(2*k+1)*G->k%2=0)(dn:2*k*G<=2*n+G)(de:2*k*G=2*n+G->k%2=0):Cut n 1 k t:=by
 subst hG;exact⟨by simpa using up,by simpa using ue,by simpa using dn,by simpa using de⟩
theorem Zabo(neg:Bool)(n drop:Nat):Cut n 1 (Ieee.Toward.even.cut neg n drop) drop:=by
 unfold Ieee.Toward.cut;simp only[Nat.one_shiftLeft];rcases Nat.lt_or_ge (n.log2+2) drop with c|c
 ·rw[Nat.min_eq_right oM];have h1:n<2^(n.log2+1):=Nat.lt_log2_self;have h2:2^(n.log2+2)=2*2^(n.log2+1):=by rw[Nat.pow_succ];omega
  have h3:2^(n.log2+2)<=2^drop:=Nat.pow_le_pow_right oM oM;rw[Nat.div_eq_of_lt oM,Nat.mod_eq_of_lt oM];have e1:(decide (2^(n.log2+2)<2*n)||2^(n.log2+2)==2*n&&0%2==1)=false:=by
   have:¬ (2^(n.log2+2)<2*n):=oM;simp[this]
  rw[e1];refine⟨?_,?_,?_,?_⟩<;>simp<;>omega
 ·rw[Nat.min_eq_left oM];have hG:0<2^drop:=Nat.two_pow_pos drop;have h1:=Nat.div_add_mod n (2^drop);have h2:=Nat.mod_lt n hG;generalize hq:n/2^drop=q at *;generalize hr:n%2^drop=r at *;generalize hGd:2^drop=G at *;clear hq hr;have h3:2*n=2*(q*G)+2*r:=by rw[Nat.mul_comm q G];omega
  have x0:(2*q+1)*G=2*(q*G)+G:=by rw[Nat.add_mul,Nat.mul_assoc];omega
  have x1:(2*(q+1)+1)*G=2*(q*G)+3*G:=by rw[show 2*(q+1)+1=2*q+3 by omega,Nat.add_mul,Nat.mul_assoc]
  have x2:2*q*G=2*(q*G):=Nat.mul_assoc ..;have x3:2*(q+1)*G=2*(q*G)+2*G:=by rw[show 2*(q+1)=2*q+2 by omega,Nat.add_mul,Nat.mul_assoc]
  refine cut_of hGd ?_ ?_ ?_ ?_<;>clear hGd
  all_goals(
   by_cases c1:G<2*r
   ·have e1:(decide (G<2*r)||G==2*r&&q%2==1)=true:=by simp[c1]
    rw[e1];simp only[Bool.toNat_true];omega
   ·by_cases c2:G=2*r
    ·by_cases c3:q%2=1
     ·have e1:(decide (G<2*r)||G==2*r&&q%2==1)=true:=by simp[c2,c3]
      rw[e1];simp only[Bool.toNat_true];omega
     ·have e1:(decide (G<2*r)||G==2*r&&q%2==1)=false:=by simp[c2];omega
      rw[e1];simp only[Bool.toNat_false,Nat.add_zero];omega
    ·have e1:(decide (G<2*r)||G==2*r&&q%2==1)=false:=by simp[c1,c2]
     rw[e1]
     simp only[Bool.toNat_false,Nat.add_zero];omega)
def Zkh(p:Nat)(L:Int)(mag:Nat)(place:Int):Nat:=
 if mag=0 then 0 else
 (max (place+mag.log2-p) L-L).toNat*2^p+Ieee.Toward.even.cut false (mag<<<(place-max (place+mag.log2-p) L).toNat) (max (place+mag.log2-p) L-place).toNat
theorem Zju(f:Ieee.Format)(neg:Bool)(mag:Nat)(place:Int):
 f.nearest neg mag place=f.word neg (min (Zkh f.fractionBits f.leastPlace mag place) f.infRung):=by
 unfold Ieee.Format.nearest Zkh;by_cases h:mag=0
 ·rw[if_pos h,if_pos h,Nat.zero_min]
 ·rw[if_neg h,if_neg h];rfl
theorem Zwv(p:Nat)(L:Int)(mag:Nat)(place:Int)(h0:mag≠0):
 ∃t k j u:Nat,Zkh p L mag place=t*2^p+k/\Cut (mag*2^j) 1 k u/\(L+t+j:Int)=place+u/\(t=0\/(p+u:Int)=mag.log2+j)/\(mag.log2+j:Int)<=p+u/\(j=0\/u=0):=by
 unfold Zkh;rw[if_neg h0];generalize hl:max (place+mag.log2-p) L=last;have hL:L<=last:=oM;have hq:place+mag.log2-p<=last:=oM;have hor:last=L\/last=place+mag.log2-p:=oM;rw[Nat.shiftLeft_eq];exact⟨(last-L).toNat,_,(place-last).toNat,(last-place).toNat,rfl,Zabo _ _ _,oM,oM,oM,oM⟩
theorem Znj(p:Nat)(L:Int)(mag:Nat)(place:Int)(hp:1<=p)(a s:Nat)(h:(a:Int)=place-L+s):
 Near p (mag*2^a) (2^s) (Zkh p L mag place):=by
 by_cases h0:mag=0
 ·subst h0;have:Zkh p L 0 place=0:=by simp[Zkh]
  rw[this];have:=Zvo p 0 (2^s) (Nat.two_pow_pos s);rw[Zpm]at this;simpa using this
 ·obtain⟨t,k,j,u,e,hc,e1,e2,e3,e4⟩:=Zwv p L mag place h0;rw[e];have hb:j<=a+u:=oM;have hlo:2^mag.log2<=mag:=Nat.log2_self_le h0;have hhi:mag<2^(mag.log2+1):=Nat.lt_log2_self;have hcs:Cut (mag*2^a) (2^s) k t:=by
   have:=hc.scale (a-j) s t oM;rwa[Nat.mul_assoc,←Nat.pow_add,show j+(a-j)=a by omega]at this
  refine(hcs.near (Nat.two_pow_pos s) hp ?_ ?_).1
  ·rcases e2 with c|c
   ·exact Or.inl c
   ·right;rw[←Nat.pow_add,←Nat.pow_add,show p+t+s=mag.log2+a by omega,Nat.pow_add];exact Nat.mul_le_mul_right _ hlo
  ·have:2*2^p*2^t*2^s=2^(p+t+s+1):=by
    rw[Nat.pow_succ,Nat.pow_add,Nat.pow_add,Nat.mul_comm _ 2];simp only[Nat.mul_assoc]
   rw[this]
   calc mag*2^a<2^(mag.log2+1)*2^a:=Nat.mul_lt_mul_of_pos_right hhi (Nat.two_pow_pos a)
    _=2^(mag.log2+1+a):=(Nat.pow_add ..).symm
    _<=2^(p+t+s+1):=Nat.pow_le_pow_right oM oM
structure Pos where
 le:Nat->Prop
 lt:Nat->Prop
 a1:∀c,lt c->le c
 a2:∀c c',c<c'->le c'->lt c
theorem Pos.le_mono(X:Pos){c c':Nat}(h:c<=c')(k:X.le c'):X.le c:=by
 rcases Nat.lt_or_eq_of_le h with e|e
 ·exact X.a1 _ (X.a2 _ _ e k)
 ·rw[e];exact k
structure Zqw(p:Nat)(X:Pos)(r:Nat):Prop where
 up:¬X.lt (V p r+V p (r+1))
 ue:X.le (V p r+V p (r+1))->r%2=0
 dn:∀q,r=q+1->X.le (V p q+V p r)
 de:∀q,r=q+1->¬X.lt (V p q+V p r)->r%2=0
theorem Zqw.mono{p:Nat}{X Y:Pos}{r r':Nat}(h:Zqw p X r)(h':Zqw p Y r')(hl:∀c,X.lt c->Y.lt c)(hle:∀c,X.le c->Y.le c):r<=r':=by
 rcases Nat.lt_or_ge r' r with c|c
 ·exfalso;obtain⟨q,hq⟩:∃q,r=q+1:=⟨r-1,oM⟩
  have a1:=h.dn q hq;have a2:=h'.up;rcases Nat.lt_or_ge r' q with c2|c2
  ·have:V p r'+V p (r'+1)<V p q+V p r:=by
    have:=V_lt p c2;have:=V_le p (show r'+1<=r by omega);omega
   exact a2 (Y.a2 _ _ this (hle _ a1))
  ·have e:r'=q:=oM;subst e;subst hq;have e1:=h'.ue (hle _ a1);have e2:=h.de r' rfl (fun k=>a2 (hl _ k));omega
 ·exact c
structure PCut(X:Pos)(k t:Nat):Prop where
 up:¬X.lt ((2*k+1)*2^t)
 ue:X.le ((2*k+1)*2^t)->k%2=0
 dn:∀j,k=j+1->X.le ((2*j+1)*2^t)
 de:∀j,k=j+1->¬X.lt ((2*j+1)*2^t)->k%2=0
theorem PCut.near{p:Nat}{X:Pos}{k t:Nat}(h:PCut X k t)(hp:1<=p)(hr:t=0\/X.le (2*(2^p*2^t)))(hu:¬X.le (4*(2^p*2^t))):
 Zqw p X (t*2^p+k)/\k<=2*2^p/\(t=0\/2^p<=k):=by
 have hT:0<2^t:=Nat.two_pow_pos t;have hB2:2^p%2=0:=by
  obtain⟨q,rfl⟩:∃q,p=q+1:=⟨p-1,oM⟩
  rw[Nat.pow_succ];omega
 have hB:0<2^p:=Nat.two_pow_pos p;have kle:k<=2*2^p:=by
  rcases Nat.lt_or_ge (2*2^p) k with c|c
  ·exfalso;obtain⟨j,rfl⟩:∃j,k=j+1:=⟨k-1,oM⟩
   refine hu (X.le_mono ?_ (h.dn j rfl));rw[←Nat.mul_assoc];exact Nat.mul_le_mul_right _ oM
  ·exact c
 have kge:t=0\/2^p<=k:=by
  rcases hr with c|c
  ·exact Or.inl c
  ·right;rcases Nat.lt_or_ge k (2^p)with c2|c2
   ·exfalso;refine h.up (X.a2 _ _ ?_ c);rw[←Nat.mul_assoc];exact Nat.mul_lt_mul_of_pos_right oM hT
   ·exact c2
 refine⟨?_,kle,kge⟩;have par:(t*2^p+k)%2=k%2:=by
  have:(t*2^p)%2=0:=by rw[Nat.mul_mod,hB2,Nat.mul_zero,Nat.zero_mod]
  omega
 have vr:V p (t*2^p+k)=k*2^t:=V_at p t k kle kge;have vs:=Zrr p (t*2^p+k);have sge:2^t<=2^((t*2^p+k)/2^p-1):=by
  exact Zes
 have up2:(2*k+1)*2^t<=V p (t*2^p+k)+V p (t*2^p+k+1):=by
  rw[vs,vr];have:(2*k+1)*2^t=k*2^t+k*2^t+2^t:=by rw[Nat.add_mul,Nat.mul_assoc];omega
  omega
 have low:∀q,t*2^p+k=q+1->∃j,k=j+1/\(V p q+V p (t*2^p+k)=(2*j+1)*2^t\/(V p q+V p (t*2^p+k)<2*(2^p*2^t)/\X.le (2*(2^p*2^t)))):=by
  intro q hq;have hk0:k≠0:=by
   intro k0;subst k0;rcases kge with c|c
   ·subst c;omega
   ·omega
  obtain⟨j,rfl⟩:∃j,k=j+1:=⟨k-1,oM⟩
  refine⟨j,rfl,?_⟩;have hqj:q=t*2^p+j:=oM;rcases Nat.lt_or_ge j (2^p)with c2|c2
  ·by_cases c3:t=0
   ·left;have:V p q=j*2^t:=by rw[hqj];exact V_at p t j oM (Or.inl c3)
    rw[vr,this,←Nat.add_mul];congr 1;omega
   ·right;have hk:j+1=2^p:=oM;refine⟨?_,hr.resolve_left c3⟩;have:=V_lt p (show q<t*2^p+(j+1) by omega);rw[vr,hk]at this ⊢;omega
  ·left;have:V p q=j*2^t:=by rw[hqj];exact V_at p t j oM (Or.inr c2)
   rw[vr,this,←Nat.add_mul];congr 1;omega
 refine⟨?_,?_,?_,?_⟩
 ·intro k1;exact h.up (by
   rcases Nat.lt_or_eq_of_le up2 with e|e
   ·exact X.a2 _ _ e (X.a1 _ k1)
   ·rw[e];exact k1)
 ·intro k1;rw[par];exact h.ue (X.le_mono up2 k1)
 ·intro q hq;obtain⟨j,hj,e|⟨e,e2⟩⟩:=low q hq
  ·rw[e];exact h.dn j hj
  ·exact X.a1 _ (X.a2 _ _ e e2)
 ·intro q hq k1;rw[par];obtain⟨j,hj,e|⟨e,e2⟩⟩:=low q hq
  ·rw[e]at k1;exact h.de j hj k1
  ·exact absurd (X.a2 _ _ e e2) k1
def rootPos(n:Nat):Pos where
 le c:=c*c<=4*n
 lt c:=c*c<4*n
 a1:=fun c h=>Nat.le_of_lt h
 a2:=fun c c' h k=>Nat.lt_of_lt_of_le (Nat.mul_self_lt_mul_self h) k
def ratPos(n d:Nat)(hd:0<d):Pos where
 le c:=c*d<=2*n
 lt c:=c*d<2*n
 a1:=fun c h=>Nat.le_of_lt h
 a2:=fun c c' h k=>Nat.lt_of_lt_of_le (Nat.mul_lt_mul_of_pos_right h hd) k
theorem Zaqq{p n d r:Nat}(hd:0<d):Near p n d r↔Zqw p (ratPos n d hd) r:=by
 constructor
 ·intro h;refine⟨?_,?_,?_,?_⟩
  ·exact Nat.not_lt.2 h.up
  ·intro k;exact h.ue (Nat.le_antisymm h.up k)
  ·exact h.dn
  ·intro q hq k;exact h.de q hq (Nat.le_antisymm (h.dn q hq) (Nat.not_lt.1 k))
 ·intro h;refine⟨?_,?_,?_,?_⟩
  ·exact Nat.not_lt.1 h.up
  ·intro k;exact h.ue (Nat.le_of_eq k.symm)
  ·exact h.dn
  ·intro q hq k;exact h.de q hq (Nat.not_lt.2 (Nat.le_of_eq k.symm))
def Zlq(p n r:Nat):Prop:=Zqw p (rootPos n) r
theorem Zlq.mono{p n n' r r':Nat}(h:Zlq p n r)(h':Zlq p n' r')(hn:n<=n'):r<=r':=
 Zqw.mono h h' (fun c (k:c*c<4*n)=>show c*c<4*n' by omega) (fun c (k:c*c<=4*n)=>show c*c<=4*n' by omega)
theorem Zlq.unique{p n r r':Nat}(h:Zlq p n r)(h':Zlq p n r'):r=r':=
 Nat.le_antisymm (h.mono h' (Nat.le_refl _)) (h'.mono h (Nat.le_refl _))
theorem Zul(p:Nat)(L:Int)(mag:Nat)(place:Int)(hp:1<=p)(big:p+2<=mag.log2)(a:Nat)(b:Nat)(h:(a:Int)+L=place+b)(X:Pos)
 (st:∀c u:Nat,u+a=c+b->2<=u->∀k,(X.lt (k*2^c)↔k*2^u<2*mag)/\(X.le (k*2^c)↔k*2^u<=2*mag)):Zqw p X (Zkh p L mag place):=by
 have h0:mag≠0:=by intro e;subst e;simp[Nat.log2_zero]at big
 obtain⟨t,k,j,u,e,hc,e1,e2,e3,e4⟩:=Zwv p L mag place h0;have hj:j=0:=oM;subst hj;have hu2:2<=u:=oM;have htu:u+a=t+b:=oM;simp only[Nat.pow_zero,Nat.mul_one]at hc;rw[e];have hlo:2^mag.log2<=mag:=Nat.log2_self_le h0;have hhi:mag<2^(mag.log2+1):=Nat.lt_log2_self;have S:=st t u htu hu2;have up:=hc.up;have ue:=hc.ue;have dn:=hc.dn;have de:=hc.de;simp only[Nat.mul_one]at up ue dn de;have pc:PCut X k t:=by
  refine⟨?_,?_,?_,?_⟩
  ·rw[(S _).1];omega
  ·rw[(S _).2];intro q;exact ue oM
  ·intro j hj;rw[(S _).2];subst hj;have:2*(j+1)*2^u=(2*j+1)*2^u+2^u:=by rw[←Nat.succ_mul];rfl
   omega
  ·intro j hj;rw[(S _).1];subst hj;have:2*(j+1)*2^u=(2*j+1)*2^u+2^u:=by rw[←Nat.succ_mul];rfl
   intro q;exact de oM
 refine(pc.near hp ?_ ?_).1
 ·rcases e2 with c|c
  ·exact Or.inl c
  ·right;rw[←Nat.mul_assoc,(S _).2,Nat.mul_assoc,←Nat.pow_add];have:p+u=mag.log2:=oM;rw[this];omega
 ·rw[←Nat.mul_assoc,(S _).2];have:2^(mag.log2+1)<=2^(p+u+1):=Nat.pow_le_pow_right oM oM;rw[Nat.mul_assoc,←Nat.pow_add];rw[Nat.pow_succ]at this;omega
def ng(a:Nat):Bool:=a/2147483648%2==1
def rg(a:Nat):Nat:=a%2147483648
def mg(a:Nat):Nat:=if rg a<8388608 then rg a else 8388608+rg a%8388608
def te(a:Nat):Nat:=rg a/8388608-1
def mv(a:Nat):Nat:=V 23 (rg a)
def sg(s:Bool)(m:Nat):Int:=if s then -(m:Int)else m
def sv(a:Nat):Int:=sg (ng a) (mv a)
def wd(s:Bool)(r:Nat):Nat:=if s then 2147483648+min r 2139095040 else min r 2139095040
def R(n:Nat):Nat:=Zkh 23 (-149) n (-149)
theorem Zpx(a:Nat):mv a=mg a*2^te a:=by
 unfold mv V mg te;by_cases h:rg a<8388608
 ·rw[if_pos h,if_pos h,Nat.div_eq_of_lt h];simp
 ·rw[if_neg h,if_neg h]
theorem mg_lt(a:Nat):mg a<16777216:=by
 unfold mg;split<;>omega
theorem Zkq:Ieee.single.leastPlace= -149:=rfl
theorem Zmb:Ieee.single.fractionBits=23:=rfl
theorem Zsb(s:Bool)(r:Nat):Ieee.single.word s (min r Ieee.single.infRung)=wd s r:=rfl
theorem Zmm(a:Nat):Ieee.single.read a=if rg a<8388608 then .number (ng a) (rg a) (-149)else if rg a<2139095040 then .number (ng a) (8388608+rg a%8388608) (-149+((rg a/8388608-1:Nat):Int))else if rg a=2139095040 then .infinity (ng a)else .nan (ng a) (rg a-2139095040):=rfl
theorem Zjy(a:Nat)(h:rg a<2139095040):Ieee.single.read a=.number (ng a) (mg a) (-149+(te a:Int)):=by
 rw[Zmm];unfold mg te;by_cases c:rg a<8388608
 ·rw[if_pos c,if_pos c,Nat.div_eq_of_lt c];simp
 ·rw[if_neg c,if_pos h,if_neg c]
theorem Zlw(a:Nat)(h:rg a=2139095040):Ieee.single.read a=.infinity (ng a):=by
 rw[Zmm,if_neg oM,if_neg oM,if_pos h]
theorem Zlc(a:Nat)(h:2139095040<rg a):Ieee.single.read a=.nan (ng a) (rg a-2139095040):=by
 rw[Zmm,if_neg oM,if_neg oM,if_neg oM]
theorem near_R(n:Nat):Near 23 n 1 (R n):=by
 have:=Znj 23 (-149) n (-149) dE 0 0 dE;simpa[R]using this
theorem Zaby(m:Nat)(t:Nat):Zkh 23 (-149) m (-149+(t:Int))=R (m*2^t):=by
 have h1:=Znj 23 (-149) m (-149+(t:Int)) dE t 0 sO;exact h1.unique (near_R (m*2^t)) dE dE sM
theorem Zvm(s:Bool)(m u c:Nat):Ieee.signed s m u*(2:Int)^c=sg s (m*2^(u+c)):=by
 unfold Ieee.signed sg;have e:((m<<<u:Nat):Int)*2^c=((m*2^(u+c):Nat):Int):=by
  rw[Nat.shiftLeft_eq,Nat.pow_add,←Nat.mul_assoc];push_cast;rfl
 cases s
 ·simpa using e
 ·simp only[if_true];rw[Int.neg_mul,e]
theorem Zzp(m n more:Nat)(hn:0<n)(place:Int)(big:25<=(2*((m<<<more)/n)+((m<<<more)%n != 0).toNat).log2)(a s:Nat)(h:(a:Int)=place+more+1+149+s)(hma:more<=a):
 Near 23 (m*2^a) (n*2^s) (Zkh 23 (-149) (2*((m<<<more)/n)+((m<<<more)%n != 0).toNat) place):=by
 have hd:0<n*2^s:=Nat.mul_pos hn (Nat.two_pow_pos s);rw[Zaqq hd];refine Zul 23 (-149) _ place dE big a (more+1+s) (by push_cast;omega) _ ?_;intro c u hcu hu k;rw[Nat.shiftLeft_eq]at *;have hm:=Nat.div_add_mod (m*2^more) n;have hl:=Nat.mod_lt (m*2^more) hn;generalize hq:m*2^more/n=q at *;generalize hr:m*2^more%n=r at *;obtain⟨v,rfl⟩:∃v,u=v+2:=⟨u-2,oM⟩
 have hb:(r != 0).toNat=if r=0 then 0 else 1:=by by_cases c:r=0<;>simp[c]
 rw[hb];have e1:k*2^c*(n*2^s)=(k*2^v*n)*2^(s+c-v):=by
  have:2^c*2^s=2^v*2^(s+c-v):=by rw[←Nat.pow_add,←Nat.pow_add];congr 1;omega
  calc k*2^c*(n*2^s)=k*n*(2^c*2^s):=by grind
   _=k*n*(2^v*2^(s+c-v)):=by rw[this]
   _=_:=by grind
 have e2:2*(m*2^a)=(m*2^more)*2^(s+c-v):=by
  have:2^a*2=2^more*2^(s+c-v):=by rw[←Nat.pow_succ,←Nat.pow_add];congr 1;omega
  calc 2*(m*2^a)=m*(2^a*2):=by grind
   _=_:=by rw[this,Nat.mul_assoc]
 have hP:0<2^(s+c-v):=Nat.two_pow_pos _;have e3:k*2^(v+2)=4*(k*2^v):=by rw[Nat.pow_succ,Nat.pow_succ];grind
 show(k*2^c*(n*2^s)<2*(m*2^a)↔_)/\(k*2^c*(n*2^s)<=2*(m*2^a)↔_);rw[e1,e2,e3,Nat.mul_lt_mul_right hP,Nat.mul_le_mul_right_iff hP];generalize k*2^v=K;generalize m*2^more=M at *;have l1:K<q->K*n+n<=n*q:=fun h=>by
  have:=Nat.mul_le_mul_left n (show K+1<=q from h);rw[Nat.mul_add,Nat.mul_one,Nat.mul_comm n K]at this;exact this
 have l2:q<K->n*q+n<=K*n:=fun h=>by
  have:=Nat.mul_le_mul_left n (show q+1<=K from h);rw[Nat.mul_add,Nat.mul_one,Nat.mul_comm n K]at this;exact this
 have l3:q=K->n*q=K*n:=fun h=>by rw[h,Nat.mul_comm]
 rcases Nat.lt_trichotomy K q with d|d|d
 ·have:=l1 d;by_cases r0:r=0<;>simp only[r0,if_true,if_false]<;>omega
 ·have:=l3 d.symm;by_cases r0:r=0<;>simp only[r0,if_true,if_false]<;>omega
 ·have:=l2 d;by_cases r0:r=0<;>simp only[r0,if_true,if_false]<;>omega
theorem Zvz{m n more j:Nat}(hn:0<n)(h:n*2^j<=m*2^more):j+1<=(2*((m<<<more)/n)+((m<<<more)%n != 0).toNat).log2:=by
 rw[Nat.shiftLeft_eq];have:2^j<=m*2^more/n:=(Nat.le_div_iff_mul_le hn).2 (by rw[Nat.mul_comm];exact h);generalize m*2^more/n=q at *;generalize (m*2^more%n != 0).toNat=b;have hp:=Nat.two_pow_pos j;apply(Nat.le_log2 oM).2;rw[Nat.pow_succ];omega
theorem div_fin(a b:Nat)(ha:rg a<2139095040)(hb:rg b<2139095040)(ha0:mg a≠0)(hb0:mg b≠0):
 ∃r,Ieee.single.div a b=some (wd (ng a^^ng b) r)/\Near 23 (mv a*2^149) (mv b) r:=by
 unfold Ieee.Format.div;rw[Zjy a ha,Zjy b hb];simp only[Ieee.Datum.quotient,Option.map_some,Ieee.Format.write,if_neg hb0];rw[Zju];refine⟨_,rfl,?_⟩;rw[Zkq,Zmb];generalize hmore:23+2+(mg b).log2-(mg a).log2=more;have hbp:0<mg b:=Nat.pos_of_ne_zero hb0;have hla:(mg a).log2<=23:=by
  have:(mg a).log2<24:=(Nat.log2_lt ha0).2 (mg_lt a);omega
 have big:25<=(2*((mg a<<<more)/mg b)+((mg a<<<more)%mg b != 0).toNat).log2:=by
  refine Zvz hbp (j:=24) ?_;have h1:mg b<2^((mg b).log2+1):=Nat.lt_log2_self;have h2:2^(mg a).log2<=mg a:=Nat.log2_self_le ha0
  calc mg b*2^24<=2^((mg b).log2+1)*2^24:=Nat.mul_le_mul_right _ (Nat.le_of_lt h1)
   _=2^(mg a).log2*2^more:=by rw[←Nat.pow_add,←Nat.pow_add];congr 1;omega
   _<=mg a*2^more:=Nat.mul_le_mul_right _ h2
 have:=Zzp (mg a) (mg b) more hbp (-149+(te a:Int)-(-149+(te b:Int))-(more:Nat)-1) big (149+te a) (te b) (by push_cast;omega) (by have:(mg b).log2<24:=(Nat.log2_lt hb0).2 (mg_lt b);omega);rw[Zpx,Zpx];rw[show mg a*2^te a*2^149=mg a*2^(149+te a) by rw[Nat.mul_assoc,←Nat.pow_add,Nat.add_comm]];exact this
theorem Zvu(p m c:Nat)(hm:m<2^(p+1)):∃t k,V p (t*2^p+k)=m*2^c/\k<=2*2^p/\(t=0\/2^p<=k)/\k*2^t=m*2^c:=by
 by_cases h0:m=0
 ·subst h0;exact⟨0,0,by simp[Zpm],oM,Or.inl rfl,sM⟩
 ·have hl:m.log2<p+1:=(Nat.log2_lt h0).2 hm;have hlo:2^m.log2<=m:=Nat.log2_self_le h0;have hhi:m<2^(m.log2+1):=Nat.lt_log2_self;have e:m*2^min c (p-m.log2)*2^(c-min c (p-m.log2))=m*2^c:=by
   rw[Nat.mul_assoc,←Nat.pow_add];congr 2;omega
  have k1:m*2^min c (p-m.log2)<=2*2^p:=by
   calc m*2^min c (p-m.log2)<=2^(m.log2+1)*2^min c (p-m.log2):=Nat.mul_le_mul_right _ (Nat.le_of_lt hhi)
    _=2^(m.log2+1+min c (p-m.log2)):=(Nat.pow_add ..).symm
    _<=2^(p+1):=Nat.pow_le_pow_right oM oM
    _=2*2^p:=by rw[Nat.pow_succ,Nat.mul_comm]
  have k2:c-min c (p-m.log2)=0\/2^p<=m*2^min c (p-m.log2):=by
   rcases Nat.le_total c (p-m.log2)with q|q
   ·left;omega
   ·right
    calc 2^p=2^m.log2*2^min c (p-m.log2):=by rw[←Nat.pow_add];congr 1;omega
     _<=_:=Nat.mul_le_mul_right _ hlo
  exact⟨c-min c (p-m.log2),m*2^min c (p-m.log2),by rw[V_at p _ _ k1 k2,e],k1,k2,e⟩
theorem Zqy(n:Nat):∀ (todo root:Nat),root*root<=n->n<(root+2^todo)*(root+2^todo)->
 Ieee.Datum.rootFrom n todo root*Ieee.Datum.rootFrom n todo root<=n/\n<(Ieee.Datum.rootFrom n todo root+1)*(Ieee.Datum.rootFrom n todo root+1)
 |0,root,h1,h2=>by simpa[Ieee.Datum.rootFrom]using⟨h1,h2⟩
 |todo+1,root,h1,h2=>by
  unfold Ieee.Datum.rootFrom;simp only[Nat.shiftLeft_eq,Nat.one_mul];by_cases c:(root+2^todo)*(root+2^todo)<=n
  ·rw[if_pos c];refine Zqy n todo _ c ?_;rw[Nat.pow_succ]at h2;rw[show root+2^todo+2^todo=root+2^todo*2 by omega];exact h2
  ·rw[if_neg c];exact Zqy n todo root h1 oM
theorem Zti(p:Nat)(L:Int)(w n:Nat)(place:Int)(hp:1<=p)(h1:w*w<=n)(h2:n<(w+1)*(w+1))(big:p+2<=(2*w+(w*w != n).toNat).log2)(a:Nat)(h:(a:Int)=place+1-L):
 Zlq p (n*(2^a*2^a)) (Zkh p L (2*w+(w*w != n).toNat) place):=by
 refine Zul p L _ place hp big a 1 oM _ ?_;intro c u hcu hu k;obtain⟨v,rfl⟩:∃v,u=v+2:=⟨u-2,oM⟩
 have hc:c=v+1+a:=oM;subst hc;have hb:(w*w != n).toNat=if w*w=n then 0 else 1:=by by_cases c:w*w=n<;>simp[c]
 rw[hb];have hA:0<2^a*2^a:=Nat.mul_pos (Nat.two_pow_pos a) (Nat.two_pow_pos a);have e1:k*2^(v+1+a)*(k*2^(v+1+a))=4*((k*2^v)*(k*2^v))*(2^a*2^a):=by
  rw[Nat.pow_add,Nat.pow_succ];grind
 have e2:4*(n*(2^a*2^a))=4*n*(2^a*2^a):=by rw[Nat.mul_assoc]
 have e3:k*2^(v+2)=4*(k*2^v):=by rw[Nat.pow_succ,Nat.pow_succ];grind
 show(k*2^(v+1+a)*(k*2^(v+1+a))<4*(n*(2^a*2^a))↔_)/\(k*2^(v+1+a)*(k*2^(v+1+a))<=4*(n*(2^a*2^a))↔_);rw[e1,e2,e3,Nat.mul_lt_mul_right hA,Nat.mul_le_mul_right_iff hA];generalize k*2^v=K;rcases Nat.lt_trichotomy K w with d|d|d
 ·have:=Nat.mul_self_lt_mul_self d;by_cases e:w*w=n<;>simp only[e,if_true,if_false]<;>omega
 ·subst d;by_cases e:K*K=n<;>simp only[e,if_true,if_false]<;>omega
 ·have:=Nat.mul_self_le_mul_self (show w+1<=K from d);by_cases e:w*w=n<;>simp only[e,if_true,if_false]<;>omega
theorem Zapr(p q:Nat):∃k t,V p q+V p (q+1)=(2*k+1)*2^t/\k<2*2^p/\(t=0\/2^p<=k):=by
 obtain⟨t,k,hr,hk,h,ht⟩:=Zsh p q;refine⟨k,t,?_,hk,h⟩;rw[hr,V_at p t k oM h,Nat.add_assoc,V_at p t (k+1) oM oM,←Nat.add_mul];congr 1;omega
theorem gap_up{A u Q c g:Nat}(hA:A=c*Q)(hQ:0<Q)(hu:u*2^53<=A)(hc:c*c<2^50*g)(h:(c*c+g)*(Q*Q)<=(A+u)*(A+u)):False:=by
 have e1:(A+u)*(A+u)=A*A+2*(A*u)+u*u:=by grind
 have e2:A*A=c*c*(Q*Q):=by rw[hA];grind
 have e3:(c*c+g)*(Q*Q)=c*c*(Q*Q)+g*(Q*Q):=Nat.add_mul ..;have k1:A*u*2^53<=A*A:=by rw[Nat.mul_assoc];exact Nat.mul_le_mul_left _ hu
 have k2:u*u*2^53<=A*u:=by
  have:=Nat.mul_le_mul_left u hu;rw[←Nat.mul_assoc,Nat.mul_comm u A]at this;exact this
 have hQQ:0<Q*Q:=Nat.mul_pos hQ hQ;have k3:c*c*(Q*Q)<2^50*g*(Q*Q):=Nat.mul_lt_mul_of_pos_right hc hQQ;rw[Nat.mul_assoc (2^50) g]at k3;generalize A*u=Y at *;generalize u*u=Z at *;generalize g*(Q*Q)=X at *;generalize c*c*(Q*Q)=W at *;omega
theorem gap_dn{A B u Q c g n:Nat}(hA:A=c*Q)(hQ:0<Q)(hu:u*2^53<=A)(hB:B+u=A)(hc:c*c<2^50*g)(hn:n+g<=c*c)(h:B*B<=n*(Q*Q)):False:=by
 have e2:A*A=c*c*(Q*Q):=by rw[hA];grind
 have e1:A*A=B*B+2*(B*u)+u*u:=by rw[←hB];grind
 have e3:(n+g)*(Q*Q)<=c*c*(Q*Q):=Nat.mul_le_mul_right _ hn;rw[Nat.add_mul]at e3;have k1:B*u*2^53<=B*A:=by rw[Nat.mul_assoc];exact Nat.mul_le_mul_left _ hu
 have k1':B*A<=A*A:=Nat.mul_le_mul_right _ oM;have k2:u*u*2^53<=A*A:=by
  exact Zfn
 have hQQ:0<Q*Q:=Nat.mul_pos hQ hQ;have k3:c*c*(Q*Q)<2^50*g*(Q*Q):=Nat.mul_lt_mul_of_pos_right hc hQQ;rw[Nat.mul_assoc (2^50) g]at k3;generalize B*u=Y at *;generalize u*u=Z at *;generalize g*(Q*Q)=X at *;exact Zfc
theorem half_dn{A B u Q c n:Nat}(hA:A=c*Q)(hQ:0<Q)(hu:u*2^53<=A)(hB:B+u=A)(h:B*B<=n*(Q*Q)):c*c<=2*n:=by
 have e2:A*A=c*c*(Q*Q):=by rw[hA];grind
 have e1:A*A=B*B+2*(B*u)+u*u:=by rw[←hB];grind
 have k1:B*u*2^53<=B*A:=by rw[Nat.mul_assoc];exact Nat.mul_le_mul_left _ hu
 have k1':B*A<=A*A:=Nat.mul_le_mul_right _ oM;have k2:u*u*2^53<=A*A:=by
  exact Zfn
 have hQQ:0<Q*Q:=Nat.mul_pos hQ hQ;refine Nat.le_of_mul_le_mul_right (c:=Q*Q) ?_ hQQ;rw[Nat.mul_assoc 2 n];generalize B*u=Y at *;generalize u*u=Z at *;exact Zfc
theorem Zada{g a b:Nat}(ha:a%g=0)(hb:b%g=0)(h:a<b):a+g<=b:=by
 rcases Nat.eq_zero_or_pos g with e|e
 ·subst e;omega
 ·obtain⟨x,rfl⟩:=Nat.dvd_of_mod_eq_zero ha;obtain⟨y,rfl⟩:=Nat.dvd_of_mod_eq_zero hb;have:x<y:=Nat.lt_of_mul_lt_mul_left h
  calc g*x+g=g*(x+1):=by rw[Nat.mul_add,Nat.mul_one]
   _<=g*y:=Nat.mul_le_mul_left _ this
theorem step_le(p r:Nat)(h:2^p<=r):2^(r/2^p-1)*2^p<=V p r:=by
 obtain⟨t,k,hr,hk,hkt,ht⟩:=Zsh p r;have hk2:2^p<=k:=by
  rcases hkt with e|e
  ·subst e;omega
  ·exact e
 rw[←ht,Nat.mul_comm];have:V p r=k*2^t:=by rw[hr];exact V_at p t k oM hkt
 rw[this];exact Nat.mul_le_mul_right _ hk2
theorem Zail(m j N Q rD q:Nat)(hN:N=m*2^j*2^149)(S e:Nat)(hS:S=2^e)(he:52<=e)(hQe:Q=2*S)(hm0:0<m)(hm:m<2^24)(h:Zlq 52 (N*(Q*Q)) rD):
 ((V 23 q+V 23 (q+1))*(V 23 q+V 23 (q+1))<4*N->(V 23 q+V 23 (q+1))*Q<2*V 52 rD)/\
 (4*N<(V 23 q+V 23 (q+1))*(V 23 q+V 23 (q+1))->2*V 52 rD<(V 23 q+V 23 (q+1))*Q)/\
 ((V 23 q+V 23 (q+1))*(V 23 q+V 23 (q+1))=4*N->2*V 52 rD=(V 23 q+V 23 (q+1))*Q):=by
 obtain⟨k,t,hc,hk,hkt⟩:=Zapr 23 q;rw[hc];generalize hC:(2*k+1)*2^t=c at *;obtain⟨tM,kM,hV,-,-,-⟩:=Zvu 52 (2*k+1) (t+e) (Nat.lt_of_lt_of_le (show 2*k+1<2^25 by omega) dE);generalize tM*2^52+kM=rM at *;rw[Nat.pow_add,←hS]at hV;have hS52:2^52<=S:=by rw[hS];exact Nat.pow_le_pow_right dE he
 clear hS;have hV2:2*V 52 rM=c*Q:=by
  rw[hV,←hC,hQe]
  grind
 have hc0:0<c:=by rw[←hC];exact Nat.mul_pos oM (Nat.two_pow_pos t)
 have hrM:2^52<=rM:=by
  rcases Nat.lt_or_ge rM (2^52)with e|e
  ·exfalso;have h1:V 52 rM=rM:=by unfold V;rw[if_pos e]
   have h2:2^52<=V 52 rM:=by
    rw[hV,←Nat.mul_assoc];exact Nat.le_trans hS52 (Nat.le_mul_of_pos_left _ (Nat.mul_pos oM (Nat.two_pow_pos t)))
   omega
  ·exact e
 have hstep:2^(rM/2^52-1)*2^53<=c*Q:=by
  have:=step_le 52 rM hrM;have e53:(2:Nat)^53=2*2^52:=dE;rw[←hV2,e53,←Nat.mul_assoc,Nat.mul_comm _ 2,Nat.mul_assoc];exact Nat.mul_le_mul_left 2 this
 have hQ:0<Q:=by rw[hQe];have:0<(2:Nat)^52:=Nat.two_pow_pos 52;omega
 clear hQe;have up:¬ ((V 52 rD+V 52 (rD+1))*(V 52 rD+V 52 (rD+1))<4*(N*(Q*Q))):=h.up;have dn:∀q,rD=q+1->(V 52 q+V 52 rD)*(V 52 q+V 52 rD)<=4*(N*(Q*Q)):=h.dn;have hsqQ:∀x:Nat,x*Q*(x*Q)=x*x*(Q*Q):=by
  intro x;rw[Nat.mul_mul_mul_comm]
 have h4:4*(N*(Q*Q))=4*N*(Q*Q):=by rw[Nat.mul_assoc]
 rw[h4]at up dn;have hQQ:0<Q*Q:=Nat.mul_pos hQ hQ;have below:rD<rM->(V 52 rD+V 52 (rD+1))<c*Q:=by
  intro l;have:=V_lt 52 l;have:=V_le 52 (show rD+1<=rM from l);omega
 have above:rM<rD->∃q,rD=q+1/\c*Q<V 52 q+V 52 rD:=by
  intro l;refine⟨rD-1,oM,?_⟩;have:=V_lt 52 l;have:=V_le 52 (show rM<=rD-1 by omega);omega
 have hcsq:c*c<2^50*(2^t*2^t):=by
  rw[←hC];have h1:(2*k+1)*(2*k+1)<2^50:=by
   have:2*k+1<2^25:=oM
   calc (2*k+1)*(2*k+1)<2^25*2^25:=Nat.mul_self_lt_mul_self this
    _=2^50:=dE
  have h2:0<2^t*2^t:=Nat.mul_pos (Nat.two_pow_pos t) (Nat.two_pow_pos t);rw[Nat.mul_mul_mul_comm];exact Nat.mul_lt_mul_of_pos_right h1 h2
 have hcm:c*c%(2^t*2^t)=0:=by rw[←hC,Nat.mul_mul_mul_comm];exact Nat.mul_mod_left ..
 have hNm:c*c<=2*(4*N)->4*N%(2^t*2^t)=0:=by
  intro l;have e4:4*N=m*2^(j+151):=by
   rw[hN,Nat.mul_assoc m,←Nat.pow_add,show j+151=j+149+2 from rfl,Nat.pow_add 2 (j+149) 2];grind
  have hle:t+t<=j+151:=by
   rcases hkt with e|e
   ·omega
   ·rcases Nat.lt_or_ge (j+151) (t+t)with f|f
    ·exfalso;have h1:2^48*(2^t*2^t)<=c*c:=by
      rw[←hC,Nat.mul_mul_mul_comm];apply Nat.mul_le_mul_right;have:2^24<=2*k+1:=oM
      calc 2^48=2^24*2^24:=dE
       _<=_:=Nat.mul_self_le_mul_self this
     have h2:2*(4*N)<2^48*(2^t*2^t):=by
      rw[e4,←Nat.pow_add,←Nat.mul_assoc]
      calc 2*m*2^(j+151)<2^48*2^(j+151):=Nat.mul_lt_mul_of_pos_right oM (Nat.two_pow_pos _)
       _<=2^48*2^(t+t):=Nat.mul_le_mul_left _ (Nat.pow_le_pow_right dE oM)
     omega
    ·exact f
  rw[e4,←Nat.pow_add,show j+151=(t+t)+(j+151-(t+t)) by omega,Nat.pow_add,←Nat.mul_assoc,Nat.mul_comm m,Nat.mul_assoc];exact Nat.mul_mod_right ..
 refine⟨?_,?_,?_⟩
 ·intro l;rcases Nat.lt_or_ge (c*Q) (2*V 52 rD)with f|f
  ·exact f
  ·exfalso;have hle:rD<=rM:=by
    rcases Nat.lt_or_ge rM rD with f2|f2
    ·have:=V_lt 52 f2;omega
    ·exact f2
   apply up;rcases Nat.lt_or_eq_of_le hle with e|e
   ·refine Nat.lt_trans (Nat.mul_self_lt_mul_self (below e)) ?_;rw[hsqQ];exact Nat.mul_lt_mul_of_pos_right l hQQ
   ·subst e;have hst:V 52 (rD+1)=V 52 rD+2^(rD/2^52-1):=Zrr 52 rD;have hsum:V 52 rD+V 52 (rD+1)=c*Q+2^(rD/2^52-1):=oM;rw[hsum];rcases Nat.lt_or_ge ((c*Q+2^(rD/2^52-1))*(c*Q+2^(rD/2^52-1))) (4*N*(Q*Q))with f3|f3
    ·exact f3
    ·exfalso;refine gap_up rfl hQ hstep hcsq (Nat.le_trans (Nat.mul_le_mul_right _ ?_) f3);exact Zada hcm (hNm oM) l
 ·intro l;rcases Nat.lt_or_ge (2*V 52 rD) (c*Q)with f|f
  ·exact f
  ·exfalso;have hle:rM<=rD:=by
    rcases Nat.lt_or_ge rD rM with f2|f2
    ·have:=V_lt 52 f2;omega
    ·exact f2
   rcases Nat.lt_or_eq_of_le hle with e|e
   ·obtain⟨q,hq,hab⟩:=above e;have h1:=dn q hq;have h2:=Nat.mul_self_lt_mul_self hab;rw[hsqQ]at h2;have h3:4*N*(Q*Q)<c*c*(Q*Q):=Nat.mul_lt_mul_of_pos_right l hQQ;omega
   ·subst e;obtain⟨q,rfl⟩:∃q,rM=q+1:=⟨rM-1,by have:0<(2:Nat)^52:=Nat.two_pow_pos 52;omega⟩
    have h1:=dn q rfl;have hst:V 52 (q+1)=V 52 q+2^(q/2^52-1):=Zrr 52 q;have hsm:2^(q/2^52-1)*2^53<=c*Q:=by
     refine Nat.le_trans (Nat.mul_le_mul_right _ ?_) hstep;apply Nat.pow_le_pow_right dE;have:q/2^52<=(q+1)/2^52:=Nat.div_le_div_right oM;omega
    have hB:V 52 q+V 52 (q+1)+2^(q/2^52-1)=c*Q:=oM;have hh:=half_dn rfl hQ hsm hB h1;exact gap_dn rfl hQ hsm hB hcsq (Zada (hNm hh) hcm l) h1
 ·intro l;have e:rD=rM:=by
   rcases Nat.lt_trichotomy rD rM with e|e|e
   ·exfalso;apply up;have:=Nat.mul_self_lt_mul_self (below e);rw[hsqQ,l]at this;exact this
   ·exact e
   ·exfalso;obtain⟨q,hq,hab⟩:=above e;have h1:=dn q hq;have h2:=Nat.mul_self_lt_mul_self hab;rw[hsqQ,l]at h2;omega
  rw[e];exact hV2
theorem Zaaq(m j rD r:Nat)(hm0:0<m)(hm:m<2^24)(N Q:Nat)(hN:N=m*2^j*2^149)(S e:Nat)(hS:S=2^e)(he:52<=e)(hQe:Q=2*S)(h:Zlq 52 (N*(Q*Q)) rD)(hr:Near 23 (V 52 rD) Q r):Zlq 23 N r:=by
 have A:=fun q=>Zail m j N Q rD q hN S e hS he hQe hm0 hm h;have up:=hr.up;have ue:=hr.ue;have dn:=hr.dn;have de:=hr.de;refine⟨?_,?_,?_,?_⟩
 ·intro k;exact absurd ((A r).1 k) oM
 ·intro k;rcases Nat.lt_or_eq_of_le k with e|e
  ·exact absurd ((A r).1 e) oM
  ·exact ue ((A r).2.2 e)
 ·intro q hq;subst hq;rcases Nat.lt_or_ge (4*N) ((V 23 q+V 23 (q+1))*(V 23 q+V 23 (q+1)))with e|e
  ·exact absurd ((A q).2.1 e) (Nat.not_lt.2 (dn q rfl))
  ·exact e
 ·intro q hq k;subst hq;rcases Nat.lt_or_ge (4*N) ((V 23 q+V 23 (q+1))*(V 23 q+V 23 (q+1)))with e|e
  ·exact absurd ((A q).2.1 e) (Nat.not_lt.2 (dn q rfl))
  ·exact de q rfl ((A q).2.2 (Nat.le_antisymm e (Nat.not_lt.1 k))).symm
theorem Zpj(f:Ieee.Format)(s:Bool)(r:Nat)(h:r<f.infRung):∃m t:Nat,f.read (f.word s r)=.number s m (f.leastPlace+(t:Int))/\m*2^t=V f.fractionBits r/\(m<2*2^f.fractionBits):=by
 have hlt:r<f.signWeight:=Nat.lt_trans h f.infRung_lt;have e1:f.word s r%f.signWeight=r:=by
  unfold Ieee.Format.word;split
  ·rw[Nat.add_mod_left,Nat.mod_eq_of_lt hlt]
  ·exact Nat.mod_eq_of_lt hlt
 have e2:(f.word s r/f.signWeight%2==1)=s:=by
  unfold Ieee.Format.word;cases s
  ·simp[Nat.div_eq_of_lt hlt]
  ·have:(f.signWeight+r)/f.signWeight=1:=by
    rw[Nat.add_div_left _ (Nat.zero_lt_of_lt hlt),Nat.div_eq_of_lt hlt]
   simp[this]
 have hB:0<2^f.fractionBits:=Nat.two_pow_pos _;unfold Ieee.Format.read;simp only[e1,e2];unfold V;by_cases c:r<f.binade
 ·rw[if_pos c];have c':r<2^f.fractionBits:=c;rw[if_pos c'];exact⟨r,0,sM,sM,oM⟩
 ·rw[if_neg c,if_pos h];have c':¬r<2^f.fractionBits:=c;rw[if_neg c'];have:=Nat.mod_lt r hB;exact⟨_,_,rfl,rfl,by unfold Ieee.Format.binade;omega⟩
theorem V_big(p t r:Nat)(h:(t+1)*2^p<=r):2^(p+t)<=V p r:=by
 refine Nat.le_trans ?_ (V_le p h);have:(t+1)*2^p=t*2^p+2^p:=by rw[Nat.add_mul,Nat.one_mul]
 rw[this,V_at p t (2^p) oM (Or.inr (Nat.le_refl _)),Nat.pow_add];exact Nat.le_refl _
theorem Zlq.small{p n r:Nat}(h:Zlq p n r):V p r*V p r<=4*n:=by
 rcases Nat.eq_zero_or_pos r with e|e
 ·subst e;rw[Zpm];omega
 ·have:(V p (r-1)+V p r)*(V p (r-1)+V p r)<=4*n:=h.dn (r-1) oM;exact Nat.le_trans (Nat.mul_self_le_mul_self oM) this
theorem Zlq.lt{p n r t R:Nat}(h:Zlq p n r)(hR:(t+1)*2^p<=R)(hn:4*n<2^(p+t)*2^(p+t)):r<R:=by
 rcases Nat.lt_or_ge r R with c|c
 ·exact c
 ·have h1:=V_big p t r (Nat.le_trans hR c);have h2:=Nat.mul_self_le_mul_self h1;have h3:=h.small;omega
theorem te_le(a:Nat)(h:rg a<2139095040):te a<=253:=by unfold te;omega
theorem Zvl:Ieee.double.infRung=2047*2^52:=rfl
theorem Zqo:Ieee.double.leastPlace= -1074:=rfl
theorem Zna:Ieee.double.fractionBits=52:=rfl
theorem Zzr(m t:Nat)(s:Bool)(hm:m<2^24)(ht:t<=253):∃r,Ieee.double.nearest s m (-149+(t:Int))=Ieee.double.word s r/\V 52 r=m*2^(t+925)/\r<Ieee.double.infRung:=by
 rw[Zju,Zna,Zqo];have h1:=Znj 52 (-1074) m (-149+(t:Int)) dE (t+925) 0 oM;obtain⟨tM,kM,hV,-,-,-⟩:=Zvu 52 m (t+925) (Nat.lt_of_lt_of_le hm dE);have h2:=Zvo 52 (tM*2^52+kM) 1 dE;rw[hV]at h2;have e:=h1.unique h2 dE dE (by rw[Nat.pow_zero,Nat.mul_one,Nat.mul_one]);rw[e];have lt:tM*2^52+kM<Ieee.double.infRung:=by
  rcases Nat.lt_or_ge (tM*2^52+kM) Ieee.double.infRung with c|c
  ·exact c
  ·exfalso;obtain⟨T,hT⟩:∃T:Nat,T=2000:=⟨_,rfl⟩
   have h3:=V_big 52 T _ (Nat.le_trans (show(T+1)*2^52<=Ieee.double.infRung by rw[Zvl];exact Nat.mul_le_mul_right _ oM) c);rw[hV]at h3;have h4:m*2^(t+925)<2^24*2^(t+925):=Nat.mul_lt_mul_of_pos_right hm (Nat.two_pow_pos _);have h5:2^24*2^(t+925)<=2^(52+T):=by
    rw[←Nat.pow_add];exact Nat.pow_le_pow_right dE oM
   exact absurd (Nat.lt_of_le_of_lt h3 h4) (Nat.not_lt.2 h5)
 exact⟨tM*2^52+kM,by rw[Nat.min_eq_left (Nat.le_of_lt lt)],hV,lt⟩
theorem Zads(x:Nat)(hx:x=1074)(r:Nat)(hr:r<Ieee.double.infRung)(h0:r≠0):∃rD,Ieee.double.sqrt (Ieee.double.word false r)=some (Ieee.double.word false (min rD Ieee.double.infRung))/\Zlq 52 (V 52 r*2^x) rD:=by
 obtain⟨m,t,hread,hmt,hm⟩:=Zpj Ieee.double false r hr;have hV0:0<V 52 r:=by have:=V_lt 52 (Nat.pos_of_ne_zero h0);omega
 have hm0:m≠0:=by
  intro e;subst e;rw[Zna]at hmt;omega
 unfold Ieee.Format.sqrt;rw[hread];simp only[Ieee.Datum.root,if_neg hm0,Bool.false_eq_true,if_false,Option.map_some,Ieee.Format.write];rw[Zju,Zna,Zqo];have hl:m.log2<=52:=by
  have:m.log2<53:=(Nat.log2_lt hm0).2 (by rw[Zna]at hm;exact Nat.lt_of_lt_of_le hm dE);omega
 generalize hi:(-1074+(t:Int))=i;generalize hm1:2*(52+2)-m.log2=more1;generalize hmore:more1+((i-(more1:Int))%2).toNat=more;have hpar:(i-(more:Int))%2=0:=oM;have hmo:56<=more/\more<=109:=oM;have hn0:m<<<more≠0:=by
  rw[Nat.shiftLeft_eq];exact Nat.ne_of_gt (Nat.mul_pos (Nat.pos_of_ne_zero hm0) (Nat.two_pow_pos _))
 generalize hn:m<<<more=n at *;have hlo:2^m.log2<=m:=Nat.log2_self_le hm0;have hn108:2^108<=n:=by
  rw[←hn,Nat.shiftLeft_eq]
  calc 2^108<=2^(m.log2+more):=Nat.pow_le_pow_right dE oM
   _=2^m.log2*2^more:=Nat.pow_add ..
   _<=m*2^more:=Nat.mul_le_mul_right _ hlo
 have hrt:=Zqy n (n.log2/2+1) 0 oM (by
  have:n<2^(n.log2+1):=Nat.lt_log2_self;rw[Nat.zero_add,←Nat.pow_add]
  exact Nat.lt_of_lt_of_le this (Nat.pow_le_pow_right dE oM))
 generalize Ieee.Datum.rootFrom n (n.log2/2+1) 0=w at *;have hw:2^53<=w:=by
  rcases Nat.lt_or_ge w (2^53)with c|c
  ·exfalso;have:=Nat.mul_self_le_mul_self (show w+1<=2^53 from c);have e:(2:Nat)^53*2^53<2^108:=dE;omega
  ·exact c
 have big:52+2<=(2*w+(w*w != n).toNat).log2:=by
  apply(Nat.le_log2 oM).2;omega
 refine⟨_,rfl,?_⟩;obtain⟨a,ha⟩:∃a:Nat,(a:Int)=(i-(more:Int))/2+1074:=⟨((i-(more:Int))/2+1074).toNat,oM⟩
 have hnr:=Zti 52 (-1074) w n ((i-(more:Int))/2-1) dE hrt.1 hrt.2 big a oM;have e:n*(2^a*2^a)=V 52 r*2^x:=by
  rw[Zna]at hmt;rw[←hmt,←hn,Nat.shiftLeft_eq,←Nat.pow_add,Nat.mul_assoc,Nat.mul_assoc,←Nat.pow_add,←Nat.pow_add];congr 2;omega
 rw[e]at hnr;exact hnr
theorem Zarp(a:Nat)(ha:rg a<2139095040)(hs:ng a=false)(h0:mg a≠0):
 ∃rW rD mD tD r,Ieee.double.nearest false (mg a) (-149+(te a:Int))=Ieee.double.word false rW/\rW<Ieee.double.infRung/\
  Ieee.double.sqrt (Ieee.double.word false rW)=some (Ieee.double.word false rD)/\rD<Ieee.double.infRung/\
  Ieee.double.read (Ieee.double.word false rD)=.number false mD (-1074+(tD:Nat))/\
  Ieee.single.nearest false mD (-1074+(tD:Nat))=wd false r/\r<2139095040/\Zlq 23 (mv a*2^149) r:=by
 have hm24:mg a<2^24:=mg_lt a;have ht:=te_le a ha;obtain⟨rW,hw1,hw2,hw3⟩:=Zzr (mg a) (te a) false hm24 ht;have hrW:rW≠0:=by
  intro e;subst e;rw[Zpm]at hw2;have:=Nat.mul_pos (Nat.pos_of_ne_zero h0) (Nat.two_pow_pos (te a+925));omega
 obtain⟨x,hx⟩:∃x:Nat,x=1074:=⟨_,rfl⟩
 obtain⟨rD,hd1,hd2⟩:=Zads x hx rW hw3 hrW;obtain⟨e,he⟩:∃e:Nat,e=924:=⟨_,rfl⟩
 have hN:V 52 rW*2^x=mg a*2^te a*2^149*((2*2^e)*(2*2^e)):=by
  have e2:(2:Nat)*2^e=2^(e+1):=by rw[Nat.pow_succ,Nat.mul_comm]
  rw[hw2,e2,Nat.mul_assoc,Nat.mul_assoc,Nat.mul_assoc,←Nat.pow_add,←Nat.pow_add,←Nat.pow_add,←Nat.pow_add];congr 2;omega
 rw[hN]at hd2;obtain⟨y,hy⟩:∃y:Nat,y=426:=⟨_,rfl⟩
 have hNb:mg a*2^te a*2^149<2^y:=by
  rw[Nat.mul_assoc,←Nat.pow_add]
  calc mg a*2^(te a+149)<2^24*2^(te a+149):=Nat.mul_lt_mul_of_pos_right hm24 (Nat.two_pow_pos _)
   _=2^(24+(te a+149)):=(Nat.pow_add ..).symm
   _<=2^y:=Nat.pow_le_pow_right dE oM
 have hrD:rD<Ieee.double.infRung:=by
  obtain⟨T,hT⟩:∃T:Nat,T=2000:=⟨_,rfl⟩
  refine hd2.lt (t:=T) (by rw[Zvl];exact Nat.mul_le_mul_right _ oM) ?_;have e2:(2:Nat)*2^e=2^(e+1):=by rw[Nat.pow_succ,Nat.mul_comm]
  rw[e2,←Nat.pow_add,←Nat.pow_add];have hpow:=Nat.two_pow_pos (e+1+(e+1));have l1:mg a*2^te a*2^149*2^(e+1+(e+1))<2^y*2^(e+1+(e+1)):=Nat.mul_lt_mul_of_pos_right hNb hpow;have l2:4*(2^y*2^(e+1+(e+1)))<=2^(52+T+(52+T)):=by
   rw[←Nat.pow_add];have:(4:Nat)=2^2:=rfl;rw[this,←Nat.pow_add];exact Nat.pow_le_pow_right dE oM
  exact Nat.lt_of_lt_of_le (Nat.mul_lt_mul_of_pos_left l1 dE) l2
 obtain⟨mD,tD,hrd,hmD,-⟩:=Zpj Ieee.double false rD hrD;rw[Zna]at hmD;rw[Zqo]at hrd;obtain⟨s,hs9⟩:∃s:Nat,s=925:=⟨_,rfl⟩
 have hnear:=Znj 23 (-149) mD (-1074+(tD:Int)) dE tD s oM;rw[hmD]at hnear;have hq:(2:Nat)^s=2*2^e:=by
  rw[show s=e+1 by omega,Nat.pow_succ,Nat.mul_comm]
 rw[hq]at hnear;have hfin:=Zaaq (mg a) (te a) rD _ (Nat.pos_of_ne_zero h0) hm24 _ _ rfl _ e rfl oM rfl hd2 hnear;have hlt:Zkh 23 (-149) mD (-1074+(tD:Int))<2139095040:=by
  obtain⟨T,hT⟩:∃T:Nat,T=250:=⟨_,rfl⟩
  refine hfin.lt (t:=T) oM ?_;have l2:4*2^y<=2^(23+T)*2^(23+T):=by
   rw[←Nat.pow_add];have:(4:Nat)=2^2:=rfl;rw[this,←Nat.pow_add];exact Nat.pow_le_pow_right dE oM
  exact Nat.lt_of_lt_of_le (Nat.mul_lt_mul_of_pos_left hNb dE) l2
 refine⟨rW,rD,mD,tD,_,hw1,hw3,?_,hrD,hrd,?_,hlt,?_⟩
 ·rw[hd1,Nat.min_eq_left (Nat.le_of_lt hrD)]
 ·rw[Zju,Zmb,Zkq,Zsb]
 ·rw[Zpx];exact hfin
end Go.Proofs.YtbinohkcolcbfaaGreat
