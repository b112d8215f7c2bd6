import Derived.Test.YtjlpkjblkllfbaaGreatDoorOwn1
import Derived.Lib.Split
import Derived.Lib.SplitLaws
import Derived.Lib.IndexMore
import Derived.Lib.ItoaMem
import Derived.Lib.AtoiAll
import Ieee.Arith
import Derived.Laws.FloatBits
import Derived.Below
import Derived.WalkKit
import Derived.WalkSpells
namespace Go.Proofs.YtjlpkjblkllfbaaGreatDoor
open Go.RowKit Go.Proofs.Tryz
set_option linter.all false
set_option maxRecDepth 100000
set_option maxHeartbeats 16000000
section
open Go.Lib (atoiAll itoa decDigits parseUint10 parseMag NumEnd)
theorem IL:∀ (x cur r:Bs),(∀b∈x,nb b≠32)->Aj cur (x++32::r)=(cur++x)::Aj [] r
 |[],cur,r,_=>by
  rw[List.nil_append,Aj,if_pos dE,List.append_nil]
 |b::x,cur,r,h=>by
  rw[List.cons_append,Aj,if_neg (by simpa using h b sM),IL x (cur++[b]) r fun c hc=>h c Pb];simp
theorem IM:∀ (x cur:Bs),(∀b∈x,nb b≠32)->Aj cur x=[cur++x]
 |[],cur,_=>by rw[Aj,List.append_nil]
 |b::x,cur,h=>by
  rw[Aj,if_neg (by simpa using h b sM),IM x (cur++[b]) fun c hc=>h c Pb];simp
theorem Fz:∀ (x cur:Bs),Aj cur x≠[]
 |[],cur=>by simp[Aj]
 |b::x,cur=>by
  unfold Aj;split
  .simp
  .exact Fz x _
theorem Ie(c:UInt8):∀s:Bs,(Go.Lib.index s [c]= -1/\∀b∈s,b≠c)\/∃x y,s=x++c::y/\(∀b∈x,b≠c)/\Go.Lib.index s [c]=x.length
 |[]=>.inl ⟨by simp[Go.Lib.index],sM⟩
 |b::s=>by
  by_cases h:b=c
  .subst h;exact .inr ⟨[],s,rfl,sM,by simp[Go.Lib.index,List.isPrefixOf]⟩
  .have hp:([c]:Bs).isPrefixOf (b::s)=false:=by simp[List.isPrefixOf,Ne.symm h]
   have hix:Go.Lib.index (b::s) [c]=if Go.Lib.index s [c]== -1 then -1 else Go.Lib.index s [c]+1:=by rw[Go.Lib.index,hp];simp
   rcases Ie c s with⟨e,hn⟩|⟨x,y,rfl,hn,e⟩
   .refine .inl ⟨by rw[hix,e];rfl,?_⟩;intro a ha;rcases List.mem_cons.1 ha with rfl|ha
    .exact h
    .exact hn a ha
   .refine .inr ⟨b::x,y,rfl,?_,?_⟩
    .intro a ha;rcases List.mem_cons.1 ha with rfl|ha
     .exact h
     .exact hn a ha
    .rw[hix,e,if_neg sM];simp
theorem Gs(c:UInt8)(s:Bs):(Go.Lib.cut s [c]=(s,[],false)/\∀b∈s,b≠c)\/∃x y,s=x++c::y/\(∀b∈x,b≠c)/\Go.Lib.cut s [c]=(x,y,true):=by
 rcases Ie c s with⟨e,hn⟩|⟨x,y,hs,hn,e⟩
 .exact .inl ⟨by unfold Go.Lib.cut;rw[e,if_neg dE],hn⟩
 .refine .inr ⟨x,y,hs,hn,?_⟩;unfold Go.Lib.cut;rw[e,if_pos oM,hs];simp
theorem Db:∀ (a r:Bs) (n:Int),Ba n (a++r)=Ba (Ba n a) r
 |[],r,n=>rfl
 |b::a,r,n=>by rw[List.cons_append,Ba,Db a r];rfl
def Gj(b:UInt8):Prop:=48<=b.toNat/\b.toNat<=57
theorem Jv:∀ (a:Bs) (n:Int),0<=n->(∀b∈a,Gj b)->0<=Ba n a
 |[],n,h,_=>h
 |b::a,n,h,hd=>by
  have:=(hd b sM).1;rw[Ba];exact Jv a _ Wv fun c hc=>hd c Pb
theorem Kw:∀ (a:Bs) (n:Int),1<=n->(∀b∈a,Gj b)->1<=Ba n a
 |[],n,h,_=>h
 |b::a,n,h,hd=>by
  have:=(hd b sM).1;rw[Ba];exact Kw a _ Wv fun c hc=>hd c Pb
theorem Tx{l:Bs}(h0:l≠[])(h1:hd l≠48)(hd':∀b∈l,Gj b):1<=Ba 0 l:=by
 cases l with
 |nil=>exact absurd rfl h0
 |cons b a=>
  rw[Ba];have:=hd' b sM;simp only[hd,nb,Gj]at h1 this;exact Kw a _ Wv fun c hc=>hd' c Pb
theorem Ml:∀ (n:Nat) (l:Bs),l.length<=n->l≠[]->hd l≠48->(∀b∈l,Gj b)->decDigits (Ba 0 l).toNat=l
 |0,l,hn,h0,_,_=>absurd (List.eq_nil_of_length_eq_zero oM) h0
 |n+1,l,hn,h0,h1,hdg=>by
  rcases List.eq_nil_or_concat l with rfl|⟨a,b,rfl⟩
  .exact absurd rfl h0
  .rw[List.concat_eq_append]at hn h1 hdg |-;have hb:=hdg b sM;have ha:∀c∈a,Gj c:=fun c hc=>hdg c Pb;have e:Ba 0 (a++[b])=Ba 0 a*10+(nb b-48):=by rw[Db];rfl
   have hnb:nb b=(b.toNat:Int):=rfl;have ub:UInt8.ofNat (48+(b.toNat-48))=b:=by
    apply UInt8.toNat_inj.1;rw[UInt8.toNat_ofNat'];have:=b.toNat_lt;unfold Gj at hb;omega
   unfold Gj at hb;cases a with
   |nil=>
    have e2:(Ba 0 ([]++[b])).toNat=b.toNat-48:=by rw[e];simp only[Ba];omega
    rw[e2,decDigits,dif_pos oM,ub];rfl
   |cons c a=>
    have hp:=Tx (l:=c::a) sM (by simpa[hd]using h1) ha;have e2:(Ba 0 (c::a++[b])).toNat=(Ba 0 (c::a)).toNat*10+(b.toNat-48):=by rw[e];omega
    rw[e2,decDigits,dif_neg oM,show((Ba 0 (c::a)).toNat*10+(b.toNat-48))/10=(Ba 0 (c::a)).toNat by omega,show((Ba 0 (c::a)).toNat*10+(b.toNat-48))%10=b.toNat-48 by omega,ub,Ml n (c::a) (by simp at hn |-;omega) sM (by simpa[hd]using h1) ha]
theorem VE:∀ (l:Bs) (acc e:Nat),acc<10^e->e+l.length<=17->(∀b∈l,Gj b)->parseUint10 acc l=.ok (Ba (acc:Int) l).toNat
 |[],acc,e,ha,he,_=>by simp[parseUint10,Ba]
 |b::l,acc,e,ha,he,hdg=>by
  have hb:=hdg b sM;unfold Gj at hb;have hp:10^e<=10^17:=Nat.pow_le_pow_right dE (by simp at he;omega);have h17:(10:Nat)^17=100000000000000000:=dE;have hnb:nb b=(b.toNat:Int):=rfl;rw[parseUint10,if_pos hb,if_neg oM,if_neg oM,Ba,VE l (acc*10+(b.toNat-48)) (e+1) (by rw[Nat.pow_succ];omega) (by simp at he |-;omega) fun c hc=>hdg c Pb];congr 3;omega
end
def V(p k:Nat):Nat:=if k<2^p then k else(2^p+k%2^p)*2^(k/2^p-1)
theorem Ve(p t k:Nat)(h:k<=2*2^p)(h':t=0\/2^p<=k):V p (t*2^p+k)=k*2^t:=by
 unfold V;have hB:0<2^p:=Nat.two_pow_pos p;generalize 2^p=B at *;rcases Nat.lt_or_ge k B with c|c
 .have:t=0:=oM;subst this;simp[c]
 .have hge:¬ (t*B+k<B):=by have:=gJ (t*B);omega
  rw[if_neg hge];rcases Nat.lt_or_ge k (2*B)with c2|c2
  .have e1:(t*B+k)%B=k-B:=by
    have:t*B+k=(k-B)+B*(t+1):=by rw[Nat.mul_add,Nat.mul_comm];omega
    rw[this,Nat.add_mul_mod_self_left,Nat.mod_eq_of_lt oM]
   have e2:(t*B+k)/B=t+1:=by
    have:t*B+k=(k-B)+B*(t+1):=by rw[Nat.mul_add,Nat.mul_comm];omega
    rw[this,Nat.add_mul_div_left _ _ hB,Nat.div_eq_of_lt oM];omega
   rw[e1,e2,show B+(k-B)=k by omega,Nat.add_sub_cancel]
  .have hk:k=2*B:=oM;subst hk;have e0:t*B+2*B=0+B*(t+2):=by rw[Nat.mul_add,Nat.mul_comm];omega
   rw[e0,Nat.add_mul_mod_self_left,Nat.add_mul_div_left _ _ hB,Nat.zero_mod,Nat.zero_div];rw[show 0+(t+2)-1=t+1 by omega,Nat.pow_succ]
   grind
theorem LY(p r:Nat):∃t k,r=t*2^p+k/\k<2*2^p/\(t=0\/2^p<=k)/\t=r/2^p-1:=by
 have hB:0<2^p:=Nat.two_pow_pos p;generalize 2^p=B at *;have hd:=Nat.div_add_mod r B;have hm:=Nat.mod_lt r hB;rcases Nat.lt_or_ge r B with c|c
 .exact⟨0,r,oM,oM,Or.inl rfl,by rw[Nat.div_eq_of_lt c]⟩
 .have:1<=r/B:=(Nat.le_div_iff_mul_le hB).2 oM;obtain⟨t,ht⟩:∃t,r/B=t+1:=⟨r/B-1,oM⟩
  refine⟨t,B+r%B,?_,oM,Or.inr oM,oM⟩;rw[ht,Nat.mul_add,Nat.mul_comm]at hd;omega
theorem TY(p r:Nat):V p (r+1)=V p r+2^(r/2^p-1):=by
 obtain⟨t,k,hr,hk,h,ht⟩:=LY p r;have e1:V p r=k*2^t:=by rw[hr];exact Ve p t k oM h
 have e2:V p (r+1)=(k+1)*2^t:=by rw[hr,Nat.add_assoc];exact Ve p t (k+1) oM oM
 rw[e1,e2,<-ht,Nat.add_mul,Nat.one_mul]
theorem Hy(p r:Nat):V p r<V p (r+1):=by
 rw[TY];have:=Nat.two_pow_pos (r/2^p-1);omega
theorem Vf(p:Nat){r s:Nat}(h:r<s):V p r<V p s:=by
 induction s with
 |zero=>omega
 |succ s ih=>
  rcases Nat.lt_or_ge r s with c|c
  .exact Nat.lt_trans (ih c) (Hy p s)
  .have:r=s:=oM;subst this;exact Hy p r
theorem P9(p:Nat){r s:Nat}(h:V p r=V p s):r=s:=by
 rcases Nat.lt_trichotomy r s with c|c|c
 .have:=Vf p c;omega
 .exact c
 .have:=Vf p c;omega
theorem KU(p:Nat):V p 0=0:=by
 have hB:0<2^p:=Nat.two_pow_pos p;simp[V,hB]
structure Cut(n d k t:Nat):Prop where
 up:2*n<=(2*k+1)*2^t*d
 ue:2*n=(2*k+1)*2^t*d->k%2=0
 dn:2*k*2^t*d<=2*n+2^t*d
 de:2*k*2^t*d=2*n+2^t*d->k%2=0
def US(p:Nat)(L:Int)(mag:Nat)(place:Int):Nat:=
 if mag=0 then 0 else
 (max (place+mag.log2-p) L-L).toNat*2^p+Ieee.Toward.even.cut false (mag<<<(place-max (place+mag.log2-p) L).toNat) (max (place+mag.log2-p) L-place).toNat
def ng(a:Nat):Bool:=a/2147483648%2==1
def rg(a:Nat):Nat:=a%2147483648
def te(a:Nat):Nat:=rg a/8388608-1
def mv(a:Nat):Nat:=V 23 (rg a)
def sg(s:Bool)(m:Nat):Int:=if s then -(m:Int)else m
def sv(a:Nat):Int:=sg (ng a) (mv a)
def R(n:Nat):Nat:=US 23 (-149) n (-149)

abbrev Vr:ByteArray:={data:=#[48,49,50,51,52,53,54,55,56,57,97,98,99,100,101,102]}
def Ds(n:Nat):UInt8:=if n<10 then UInt8.ofNat (48+n)else UInt8.ofNat (87+n)
theorem GM:∀ (n:Nat) (h:n<ByteArray.size {data:=#[48,49,50,51,52,53,54,55,56,57,97,98,99,100,101,102]}),
 ({data:=#[48,49,50,51,52,53,54,55,56,57,97,98,99,100,101,102]}:ByteArray)[n]'h=Ds n:=by
 intro n h;have h':n<16:=h;revert h;revert n;decide
theorem Dm(n:Nat)(h:n<16):((Ds n).toNat:Int)=if n<10 then 48+(n:Int)else 87+(n:Int):=by
 revert n;decide
def CE(a:Int):ByteArray:=⟨#[Ds (a/268435456%16).toNat,Ds (a/16777216%16).toNat,Ds (a/1048576%16).toNat,Ds (a/65536%16).toNat,
 Ds (a/4096%16).toNat,Ds (a/256%16).toNat,Ds (a/16%16).toNat,Ds (a%16).toNat]⟩
theorem Er(a:Int):(CE a).size=8:=rfl
def BA(c:Int):Bool:=decide ((48<=c/\c<=57)\/(97<=c/\c<=102))
def Bo(c:Int):Int:=if c<=57 then c-48 else c-87
theorem Cr(c:Int):BA c=true↔((48<=c/\c<=57)\/(97<=c/\c<=102)):=by unfold BA;simp
theorem Oa(c:Int):BA c=false↔¬ ((48<=c/\c<=57)\/(97<=c/\c<=102)):=by unfold BA;simp
theorem BK(c:Int)(h:BA c=true):0<=Bo c/\Bo c<16:=by
 rw[Cr]at h;unfold Bo;split<;>omega
def DZ(l:List UInt8):Int:=l.foldl (fun n c=>n*16+Bo (c.toNat:Int)) 0
def B8(l:List UInt8):Bool:=l.length==8&&l.all fun c=>BA (c.toNat:Int)
theorem G3(l:List UInt8)(c:UInt8):DZ (l++[c])=DZ l*16+Bo (c.toNat:Int):=by simp[DZ]
theorem Jw:∀ (n:Nat) (l:List UInt8),l.length=n->(∀c∈l,BA (c.toNat:Int)=true)->0<=DZ l/\DZ l<16^n:=by
 intro n;induction n with
 |zero=>intro l h _;have:l=[]:=List.length_eq_zero_iff.1 h;subst this;simp[DZ]
 |succ n ih=>
  intro l h hx;have hne:l≠[]:=by intro e;subst e;simp at h
  obtain⟨l',c,rfl⟩:∃l' c,l=l'++[c]:=⟨l.dropLast,l.getLast hne,(List.dropLast_concat_getLast hne).symm⟩
  have:=ih l' U6 (fun d hd=>hx d (by simp[hd]));have hc:=BK _ (hx c sM);rw[G3,Int.pow_succ];omega
theorem G0(s:ByteArray)(k:Nat)(h:k<s.size):s.data.toList.take (k+1)=s.data.toList.take k++[s[k]]:=by
 rw[List.take_succ_eq_append_getElem U6];rfl
theorem In(s:ByteArray)(k:Nat)(h:k<s.size):s[k]∈s.data.toList:=by
 have:s.data.toList[k]' U6∈s.data.toList:=gD _;exact this
def Ka(l:List UInt8):Int:=if B8 l then DZ l else 0
theorem Fo(l:List UInt8)(h:B8 l=true):Ka l=DZ l:=by unfold Ka;simp[h]
theorem GY(l:List UInt8)(h:B8 l=false):Ka l=0:=by unfold Ka;simp[h]
theorem GL(l:List UInt8)(h:l.length=8)(ha:∀c∈l,BA (c.toNat:Int)=true):B8 l=true:=by
 unfold B8;simp[h];exact ha
theorem Ib(l:List UInt8)(h:¬l.length=8):B8 l=false:=by unfold B8;simp[h]
theorem Ia(l:List UInt8)(c:UInt8)(hc:c∈l)(h:BA (c.toNat:Int)=false):B8 l=false:=by
 unfold B8;rw[Bool.and_eq_false_iff];right;rw[List.all_eq_false];exact⟨c,hc,by simp[h]⟩
theorem FI(l:List UInt8)(h:B8 l=true):l.length=8/\∀c∈l,BA (c.toNat:Int)=true:=by
 unfold B8 at h;simpa using h
theorem Je(l:List UInt8):0<=Ka l/\Ka l<4294967296:=by
 cases h:B8 l
 .rw[GY l h];omega
 .obtain⟨h8,ha⟩:=FI l h;have:=Jw 8 l h8 ha;rw[Fo l h];simpa using this
def P7(c:Int)(k:Nat):Int:=if BA c=true/\Bo c<k then Bo c else -1
theorem RU(c:Int)(k:Nat)(hk:k<16)(h:((Ds k).toNat:Int)=c):P7 c (k+1)=k:=by
 rw[Dm k hk]at h;have hx:BA c=true:=by rw[Cr];split at h<;>omega
 have hd:Bo c=k:=by unfold Bo;split at h<;>split<;>omega
 unfold P7;rw[if_pos ⟨hx,oM⟩,hd]
theorem Pj(c:Int)(k:Nat)(hk:k<16)(h:((Ds k).toNat:Int)≠c):P7 c (k+1)=P7 c k:=by
 rw[Dm k hk]at h;have hd:BA c=true->Bo c≠k:=by
  intro hx hd;rw[Cr]at hx;unfold Bo at hd;split at h<;>split at hd<;>omega
 unfold P7;by_cases hx:BA c=true
 .have:=hd hx;by_cases hl:Bo c<k
  .rw[if_pos ⟨hx,oM⟩,if_pos ⟨hx,hl⟩]
  .rw[if_neg oM,if_neg oM]
 .simp[hx]
theorem KZ(c:Int)(h:BA c=true):P7 c 16=Bo c:=by
 have:=BK c h;unfold P7;rw[if_pos ⟨h,oM⟩]
theorem NJ(c:Int)(h:BA c=false):P7 c 16= -1:=by unfold P7;simp[h]
theorem Vm(c:Int):P7 c 0= -1:=by
 unfold P7;rw[if_neg];rintro⟨h,g⟩;have:=BK c h;omega
theorem Cx(n:Nat)(h:n<16):Bo ((Ds n).toNat:Int)=n:=by
 rw[Dm n h];unfold Bo;split<;>split<;>omega
theorem O9(n:Nat)(h:n<16):BA ((Ds n).toNat:Int)=true:=by
 rw[Dm n h,Cr];split<;>omega
theorem Cw(c:UInt8)(h:BA (c.toNat:Int)=true):Ds (Bo (c.toNat:Int)).toNat=c:=by
 have hd:=BK _ h;obtain⟨n,hn⟩:∃n:Nat,(n:Int)=Bo (c.toNat:Int):=⟨(Bo (c.toNat:Int)).toNat,oM⟩
 have hn':(Bo (c.toNat:Int)).toNat=n:=oM;rw[hn'];have e:=Dm n oM;rw[Cr]at h;apply UInt8.toNat_inj.1;unfold Bo at hn;split at e<;>split at hn<;>omega
theorem FJ(a:Int):B8 (CE a).data.toList=true:=by
 apply GL
 .rfl
 .intro c hc;have hc':c∈[Ds (a/268435456%16).toNat,Ds (a/16777216%16).toNat,Ds (a/1048576%16).toNat,Ds (a/65536%16).toNat,Ds (a/4096%16).toNat,Ds (a/256%16).toNat,Ds (a/16%16).toNat,Ds (a%16).toNat]:=hc;simp only[List.mem_cons,List.not_mem_nil,or_false]at hc';rcases hc' with rfl|rfl|rfl|rfl|rfl|rfl|rfl|rfl
  all_goals exact O9 _ oM
theorem Xk(x0 x1 x2 x3 x4 x5 x6 x7:Nat)(h0:x0<16)(h1:x1<16)(h2:x2<16)(h3:x3<16)(h4:x4<16)(h5:x5<16)(h6:x6<16)(h7:x7<16):
 DZ [Ds x7,Ds x6,Ds x5,Ds x4,Ds x3,Ds x2,Ds x1,Ds x0]=x7*268435456+x6*16777216+x5*1048576+x4*65536+x3*4096+x2*256+x1*16+x0:=by
 unfold DZ;simp only[List.foldl_cons,List.foldl_nil,Cx _ h0,Cx _ h1,Cx _ h2,Cx _ h3,Cx _ h4,Cx _ h5,Cx _ h6,Cx _ h7];omega
theorem Xj(a q1 q2 q3 q4 q5 q6 q7:Int)(b0:a%16+16*q1=a)(b1:q1/16=q2)(b2:q2/16=q3)(b3:q3/16=q4)(b4:q4/16=q5)(b5:q5/16=q6)(b6:q6/16=q7)(b7:q7/16=0):
 (q7%16)*268435456+(q6%16)*16777216+(q5%16)*1048576+(q4%16)*65536+(q3%16)*4096+(q2%16)*256+(q1%16)*16+a%16=a:=oM
theorem Qs(a:Int)(h0:0<=a)(h1:a<4294967296):Ka (CE a).data.toList=a:=by
 rw[Fo _ (FJ a)];have hl:(CE a).data.toList=[Ds (a/268435456%16).toNat,Ds (a/16777216%16).toNat,Ds (a/1048576%16).toNat,Ds (a/65536%16).toNat,Ds (a/4096%16).toNat,Ds (a/256%16).toNat,Ds (a/16%16).toNat,Ds (a%16).toNat]:=rfl;rw[hl,Xk _ _ _ _ _ _ _ _ oM oM oM oM oM oM oM oM];have s:=Xj a (a/16) (a/256) (a/4096) (a/65536) (a/1048576) (a/16777216) (a/268435456) oM oM oM oM oM oM oM oM;have t:∀y:Int,((y%16).toNat:Int)=y%16:=fun y=>by omega
 rw[t,t,t,t,t,t,t,t];exact s
theorem Vu{α:Type}(l:List α)(h:l.length=8):∃a b c d e f g i,l=[a,b,c,d,e,f,g,i]:=by
 match l,h with
 |[a,b,c,d,e,f,g,i],_=>exact⟨a,b,c,d,e,f,g,i,rfl⟩
theorem PA(s:ByteArray)(h:B8 s.data.toList=true):CE (Ka s.data.toList)=s:=by
 obtain⟨h8,ha⟩:=FI _ h;rw[Fo _ h];obtain⟨c0,c1,c2,c3,c4,c5,c6,c7,hl⟩:=Vu _ h8;have hs:s=⟨[c0,c1,c2,c3,c4,c5,c6,c7].toArray⟩:=by
  apply ByteArray.ext;rw[<-hl]
 rw[hl]at ha |-;have a0:=ha c0 sM;have a1:=ha c1 sM;have a2:=ha c2 sM;have a3:=ha c3 sM;have a4:=ha c4 sM;have a5:=ha c5 sM;have a6:=ha c6 sM;have a7:=ha c7 sM;have d0:=BK _ a0;have d1:=BK _ a1;have d2:=BK _ a2;have d3:=BK _ a3;have d4:=BK _ a4;have d5:=BK _ a5;have d6:=BK _ a6;have d7:=BK _ a7;rw[hs];have e0:=Cw c0 a0;have e1:=Cw c1 a1;have e2:=Cw c2 a2;have e3:=Cw c3 a3;have e4:=Cw c4 a4;have e5:=Cw c5 a5;have e6:=Cw c6 a6;have e7:=Cw c7 a7;have hv:DZ [c0,c1,c2,c3,c4,c5,c6,c7]=Bo (c0.toNat:Int)*268435456+Bo (c1.toNat:Int)*16777216+Bo (c2.toNat:Int)*1048576+Bo (c3.toNat:Int)*65536+Bo (c4.toNat:Int)*4096+Bo (c5.toNat:Int)*256+Bo (c6.toNat:Int)*16+Bo (c7.toNat:Int):=by
  unfold DZ;simp only[List.foldl_cons,List.foldl_nil];omega
 rw[hv];clear hv ha hl hs h8 h;generalize Bo (c0.toNat:Int)=x0 at *;generalize Bo (c1.toNat:Int)=x1 at *;generalize Bo (c2.toNat:Int)=x2 at *;generalize Bo (c3.toNat:Int)=x3 at *;generalize Bo (c4.toNat:Int)=x4 at *;generalize Bo (c5.toNat:Int)=x5 at *;generalize Bo (c6.toNat:Int)=x6 at *;generalize Bo (c7.toNat:Int)=x7 at *;obtain⟨v,hv⟩:=gA (x0*268435456+x1*16777216+x2*1048576+x3*65536+x4*4096+x5*256+x6*16+x7)
 rw[hv];unfold CE;rw[show v/268435456%16=x0 by omega,show v/16777216%16=x1 by omega,show v/1048576%16=x2 by omega,show v/65536%16=x3 by omega,show v/4096%16=x4 by omega,show v/256%16=x5 by omega,show v/16%16=x6 by omega,show v%16=x7 by omega];rw[e0,e1,e2,e3,e4,e5,e6,e7]
section
open Go.Lib (decDigits)
def Ao(n:Int):Bs:=decDigits n.toNat
theorem Mk{u:Nat}(h:¬u<10):decDigits u=decDigits (u/10)++[UInt8.ofNat (48+u%10)]:=by rw[decDigits,dif_neg h]
theorem Fc{u:Nat}(h:u<10):decDigits u=[UInt8.ofNat (48+u)]:=by rw[decDigits,dif_pos h]
theorem GI{k:Nat}(h:k<10):(UInt8.ofNat (48+k)).toNat=48+k:=by rw[UInt8.toNat_ofNat'];omega
theorem FF:∀u:Nat,decDigits u≠[]/\(∀b∈decDigits u,Gj b)/\(0<u->hd (decDigits u)≠48)/\Ba 0 (decDigits u)=(u:Int):=by
 intro u;induction u using Nat.strongRecOn with
 |_ u ih=>
  by_cases h:u<10
  .rw[Fc h];refine⟨sM,fun b hb=>?_,fun h0=>?_,?_⟩
   .rw[List.mem_singleton.1 hb];unfold Gj;rw[GI h];omega
   .simp only[hd,nb,GI h];omega
   .simp only[Ba,nb,GI h];omega
  .obtain⟨h1,h2,h3,h4⟩:=ih (u/10) oM;rw[Mk h];refine⟨sM,fun b hb=>?_,fun _=>?_,?_⟩
   .rcases List.mem_append.1 hb with hb|hb
    .exact h2 b hb
    .rw[List.mem_singleton.1 hb];unfold Gj;rw[GI oM];omega
   .have h5:=h3 oM;cases hq:decDigits (u/10)with
    |nil=>exact absurd hq h1
    |cons b t=>rw[hq]at h5;exact h5
   .rw[Db,h4];simp only[Ba,nb,GI (show u%10<10 by omega)];omega
theorem EU:∀ (k u:Nat),u<10^(k+1)->(decDigits u).length<=k+1
 |0,u,h=>by rw[Fc U6];simp
 |k+1,u,h=>by
  by_cases h1:u<10
  .rw[Fc h1];simp
  .rw[Mk h1,List.length_append,List.length_singleton];have:=EU k (u/10) (by rw[Nat.pow_succ]at h |-;omega);omega
def Af(s:Bs):Option Int:=
 if s.isEmpty||decide (10<s.length)||(decide (1<s.length)&&hd s==48)then none
 else if(s.all fun b=>FS (nb b))then(if Ba 0 s<=2147483647 then some (Ba 0 s)else none)else none
theorem SG{b:UInt8}:FS (nb b)=true↔Gj b:=by
 unfold FS nb Gj;simp only[Bool.and_eq_true,decide_eq_true_eq];omega
theorem CL{s:Bs}{n:Int}(h:Af s=some n):(0<=n/\n<=2147483647)/\s=Ao n:=by
 unfold Af at h;split at h
 .cases h
 .rename_i h1;simp only[Bool.or_eq_true,Bool.and_eq_true,decide_eq_true_eq,beq_iff_eq,List.isEmpty_iff,not_or,not_and]at h1;obtain⟨⟨h0,hl⟩,hz⟩:=h1;split at h
  .rename_i h2;have hdg:∀b∈s,Gj b:=fun b hb=>SG.1 (List.all_eq_true.1 h2 b hb);split at h
   .rename_i h3;cases h
    have hnn:=Jv s 0 dE hdg;refine⟨⟨hnn,h3⟩,?_⟩;unfold Ao;by_cases h4:hd s=48
    .have hs1:s.length=1:=by
      have h5:0<s.length:=List.length_pos_iff.2 h0;rcases Nat.lt_or_ge 1 s.length with q|q
      .exact absurd h4 (hz q)
      .omega
     match s,hs1 with
     |[b],_=>
      have hb:b=48:=by
       have:nb b=48:=h4;unfold nb at this;exact UInt8.toNat_inj.1 (by show b.toNat=48;omega)
      subst hb;show _=decDigits (0:Nat);rw[Fc dE];rfl
    .exact(Ml s.length s (gF _) h0 h4 hdg).symm
   .cases h
  .cases h
theorem FO{n:Int}(h0:0<=n)(h1:n<=2147483647):Af (Ao n)=some n:=by
 obtain⟨d1,d2,d3,d4⟩:=FF n.toNat;have hv:Ba 0 (Ao n)=n:=by unfold Ao;rw[d4];omega
 have hl:(Ao n).length<=10:=EU 9 n.toNat oM;unfold Af;rw[if_neg ?_,if_pos ?_,hv,if_pos h1]
 .exact List.all_eq_true.2 fun b hb=>SG.2 (d2 b hb)
 .simp only[Bool.or_eq_true,Bool.and_eq_true,decide_eq_true_eq,beq_iff_eq,List.isEmpty_iff,not_or,not_and];refine⟨⟨d1,oM⟩,fun h2=>?_⟩;rcases Nat.eq_zero_or_pos n.toNat with q|q
  .unfold Ao at h2;rw[q,Fc dE]at h2;exact absurd h2 dE
  .exact d3 q
theorem Cv{s:Bs}{n:Int}:Af s=some n↔(0<=n/\n<=2147483647)/\s=Ao n:=
 ⟨CL,fun⟨⟨h0,h1⟩,e⟩=>by rw[e];exact FO h0 h1⟩
def Br(s:Bs):Prop:=∀b∈s,nb b≠32/\nb b≠10
theorem CY(n:Int):Br (Ao n):=fun b hb=>by
 have:=(FF n.toNat).2.1 b hb;unfold Gj at this;unfold nb;omega
def A7:List Bs->Bs
 |[]=>[]
 |[a]=>a
 |a::b::r=>a++32::A7 (b::r)
theorem Ho:∀ (ws:List Bs),ws≠[]->(∀w∈ws,Br w)->Aj [] (A7 ws)=ws
 |[],h,_=>absurd rfl h
 |[a],_,h=>by
  rw[A7,IM a [] (fun b hb=>(h a sM b hb).1)];rfl
 |a::b::r,_,h=>by
  rw[A7,IL a [] _ (fun c hc=>(h a sM c hc).1),Ho (b::r) sM (fun w hw=>h w (List.mem_cons_of_mem _ hw))];rfl
theorem Be{a:Bs}{ws:List Bs}(h:ws≠[]):A7 (a::ws)=a++32::A7 ws:=by
 cases ws with
 |nil=>exact absurd rfl h
 |cons b r=>rfl
theorem Du:∀ (s cur:Bs),A7 (Aj cur s)=cur++s
 |[],cur=>by simp[Aj,A7]
 |b::t,cur=>by
  unfold Aj;by_cases h:nb b=32
  .rw[if_pos U7,Be (Fz t []),Du t []];have hb:b=32:=UInt8.toNat_inj.1 (by unfold nb at h;show b.toNat=32;omega);rw[hb];rfl
  .rw[if_neg U7,Du t (cur++[b])];simp
theorem DL:∀ (s cur:Bs),(∀b∈cur,nb b≠32)->∀w∈Aj cur s,∀b∈w,nb b≠32
 |[],cur,h,w,hw,b,hb=>by
  simp only[Aj,List.mem_singleton]at hw;subst hw;exact h b hb
 |c::t,cur,h,w,hw,b,hb=>by
  unfold Aj at hw;by_cases hc:nb c=32
  .rw[if_pos Pb]at hw;rcases List.mem_cons.1 hw with e|hw
   .subst e;exact h b hb
   .exact DL t [] (fun _ h=>by cases h) w hw b hb
  .rw[if_neg Pb]at hw;refine DL t (cur++[c]) (fun x hx=>?_) w hw b hb;rcases List.mem_append.1 hx with hx|hx
   .exact h x hx
   .rw[List.mem_singleton.1 hx];exact hc
def Bw:Bs->Bs->List Bs×Bs
 |cur,[]=>([],cur)
 |cur,b::t=>if nb b==10 then((cur::(Bw [] t).1),(Bw [] t).2)else Bw (cur++[b]) t
theorem IQ:∀ (x cur r:Bs),(∀b∈x,nb b≠10)->Bw cur (x++10::r)=((cur++x)::(Bw [] r).1,(Bw [] r).2)
 |[],cur,r,_=>by
  rw[List.nil_append,Bw,if_pos rF,List.append_nil]
 |b::x,cur,r,h=>by
  rw[List.cons_append,Bw,if_neg (by simpa using h b sM),IQ x (cur++[b]) r (fun c hc=>h c Pb)];simp
theorem JH:∀ (ls:List Bs),(∀l∈ls,∀b∈l,nb b≠10)->Bw [] (ls.flatMap fun x=>x++[10])=(ls,[])
 |[],_=>rfl
 |l::ls,h=>by
  rw[List.flatMap_cons,List.append_assoc,List.singleton_append,IQ l [] _ (h l sM),JH ls (fun x hx=>h x (List.mem_cons_of_mem _ hx))];rfl
end
end Go.Proofs.YtjlpkjblkllfbaaGreatDoor
