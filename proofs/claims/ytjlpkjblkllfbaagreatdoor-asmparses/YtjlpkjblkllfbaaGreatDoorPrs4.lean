import Derived.Test.YtjlpkjblkllfbaaGreatDoorPrs1
import Derived.Lib.Split
import Derived.Lib.SplitLaws
import Derived.Lib.IndexMore
import Derived.Lib.ItoaMem
import Derived.Lib.AtoiAll
import Ieee.Arith
import Derived.Laws.FloatBits
import Derived.Below
import Derived.WalkKit
import Derived.WalkSpells
namespace Go.Proofs.YtjlpkjblkllfbaaGreatDoor
open Go.RowKit Go.Proofs.Tryz
set_option linter.all false
set_option maxRecDepth 100000
set_option maxHeartbeats 16000000
section
open Go.Lib (atoiAll itoa decDigits parseUint10 parseMag NumEnd)
theorem IJ:∀ (x cur r:Bs),(∀b∈x,nb b≠32)->Ai cur (x++32::r)=(cur++x)::Ai [] r
 |[],cur,r,_=>by
  rw[List.nil_append,Ai,if_pos dE,List.append_nil]
 |b::x,cur,r,h=>by
  rw[List.cons_append,Ai,if_neg (by simpa using h b sM),IJ x (cur++[b]) r fun c hc=>h c P7];simp
theorem IK:∀ (x cur:Bs),(∀b∈x,nb b≠32)->Ai cur x=[cur++x]
 |[],cur,_=>by rw[Ai,List.append_nil]
 |b::x,cur,h=>by
  rw[Ai,if_neg (by simpa using h b sM),IK x (cur++[b]) fun c hc=>h c P7];simp
theorem Fx:∀ (x cur:Bs),Ai cur x≠[]
 |[],cur=>by simp[Ai]
 |b::x,cur=>by
  unfold Ai;split
  .simp
  .exact Fx x _
theorem Ia(c:UInt8):∀s:Bs,(Go.Lib.index s [c]= -1/\∀b∈s,b≠c)\/∃x y,s=x++c::y/\(∀b∈x,b≠c)/\Go.Lib.index s [c]=x.length
 |[]=>.inl ⟨by simp[Go.Lib.index],sM⟩
 |b::s=>by
  by_cases h:b=c
  .subst h;exact .inr ⟨[],s,rfl,sM,by simp[Go.Lib.index,List.isPrefixOf]⟩
  .have hp:([c]:Bs).isPrefixOf (b::s)=false:=by simp[List.isPrefixOf,Ne.symm h]
   have hix:Go.Lib.index (b::s) [c]=if Go.Lib.index s [c]== -1 then -1 else Go.Lib.index s [c]+1:=by rw[Go.Lib.index,hp];simp
   rcases Ia c s with⟨e,hn⟩|⟨x,y,rfl,hn,e⟩
   .refine .inl ⟨by rw[hix,e];rfl,?_⟩;intro a ha;rcases List.mem_cons.1 ha with rfl|ha
    .exact h
    .exact hn a ha
   .refine .inr ⟨b::x,y,rfl,?_,?_⟩
    .intro a ha;rcases List.mem_cons.1 ha with rfl|ha
     .exact h
     .exact hn a ha
    .rw[hix,e,if_neg sM];simp
theorem Gp(c:UInt8)(s:Bs):(Go.Lib.cut s [c]=(s,[],false)/\∀b∈s,b≠c)\/∃x y,s=x++c::y/\(∀b∈x,b≠c)/\Go.Lib.cut s [c]=(x,y,true):=by
 rcases Ia c s with⟨e,hn⟩|⟨x,y,hs,hn,e⟩
 .exact .inl ⟨by unfold Go.Lib.cut;rw[e,if_neg dE],hn⟩
 .refine .inr ⟨x,y,hs,hn,?_⟩;unfold Go.Lib.cut;rw[e,if_pos oM,hs];simp
theorem Db:∀ (a r:Bs) (n:Int),Ba n (a++r)=Ba (Ba n a) r
 |[],r,n=>rfl
 |b::a,r,n=>by rw[List.cons_append,Ba,Db a r];rfl
def Gg(b:UInt8):Prop:=48<=b.toNat/\b.toNat<=57
theorem Jt:∀ (a:Bs) (n:Int),0<=n->(∀b∈a,Gg b)->0<=Ba n a
 |[],n,h,_=>h
 |b::a,n,h,hd=>by
  have:=(hd b sM).1;rw[Ba];exact Jt a _ Wp fun c hc=>hd c P7
theorem Ku:∀ (a:Bs) (n:Int),1<=n->(∀b∈a,Gg b)->1<=Ba n a
 |[],n,h,_=>h
 |b::a,n,h,hd=>by
  have:=(hd b sM).1;rw[Ba];exact Ku a _ Wp fun c hc=>hd c P7
theorem Ts{l:Bs}(h0:l≠[])(h1:hd l≠48)(hd':∀b∈l,Gg b):1<=Ba 0 l:=by
 cases l with
 |nil=>exact absurd rfl h0
 |cons b a=>
  rw[Ba];have:=hd' b sM;simp only[hd,nb,Gg]at h1 this;exact Ku a _ Wp fun c hc=>hd' c P7
theorem Mi:∀ (n:Nat) (l:Bs),l.length<=n->l≠[]->hd l≠48->(∀b∈l,Gg b)->decDigits (Ba 0 l).toNat=l
 |0,l,hn,h0,_,_=>absurd (List.eq_nil_of_length_eq_zero oM) h0
 |n+1,l,hn,h0,h1,hdg=>by
  rcases List.eq_nil_or_concat l with rfl|⟨a,b,rfl⟩
  .exact absurd rfl h0
  .rw[List.concat_eq_append]at hn h1 hdg |-;have hb:=hdg b sM;have ha:∀c∈a,Gg c:=fun c hc=>hdg c P7;have e:Ba 0 (a++[b])=Ba 0 a*10+(nb b-48):=by rw[Db];rfl
   have hnb:nb b=(b.toNat:Int):=rfl;have ub:UInt8.ofNat (48+(b.toNat-48))=b:=by
    apply UInt8.toNat_inj.1;rw[UInt8.toNat_ofNat'];have:=b.toNat_lt;unfold Gg at hb;omega
   unfold Gg at hb;cases a with
   |nil=>
    have e2:(Ba 0 ([]++[b])).toNat=b.toNat-48:=by rw[e];simp only[Ba];omega
    rw[e2,decDigits,dif_pos oM,ub];rfl
   |cons c a=>
    have hp:=Ts (l:=c::a) sM (by simpa[hd]using h1) ha;have e2:(Ba 0 (c::a++[b])).toNat=(Ba 0 (c::a)).toNat*10+(b.toNat-48):=by rw[e];omega
    rw[e2,decDigits,dif_neg oM,show((Ba 0 (c::a)).toNat*10+(b.toNat-48))/10=(Ba 0 (c::a)).toNat by omega,show((Ba 0 (c::a)).toNat*10+(b.toNat-48))%10=b.toNat-48 by omega,ub,Mi n (c::a) (by simp at hn |-;omega) sM (by simpa[hd]using h1) ha]
theorem Vz:∀ (l:Bs) (acc e:Nat),acc<10^e->e+l.length<=17->(∀b∈l,Gg b)->parseUint10 acc l=.ok (Ba (acc:Int) l).toNat
 |[],acc,e,ha,he,_=>by simp[parseUint10,Ba]
 |b::l,acc,e,ha,he,hdg=>by
  have hb:=hdg b sM;unfold Gg at hb;have hp:10^e<=10^17:=Nat.pow_le_pow_right dE (by simp at he;omega);have h17:(10:Nat)^17=100000000000000000:=dE;have hnb:nb b=(b.toNat:Int):=rfl;rw[parseUint10,if_pos hb,if_neg oM,if_neg oM,Ba,Vz l (acc*10+(b.toNat-48)) (e+1) (by rw[Nat.pow_succ];omega) (by simp at he |-;omega) fun c hc=>hdg c P7];congr 3;omega
end
def V(p k:Nat):Nat:=if k<2^p then k else(2^p+k%2^p)*2^(k/2^p-1)
theorem V8(p t k:Nat)(h:k<=2*2^p)(h':t=0\/2^p<=k):V p (t*2^p+k)=k*2^t:=by
 unfold V;have hB:0<2^p:=Nat.two_pow_pos p;generalize 2^p=B at *;rcases Nat.lt_or_ge k B with c|c
 .have:t=0:=oM;subst this;simp[c]
 .have hge:¬ (t*B+k<B):=by have:=gJ (t*B);omega
  rw[if_neg hge];rcases Nat.lt_or_ge k (2*B)with c2|c2
  .have e1:(t*B+k)%B=k-B:=by
    have:t*B+k=(k-B)+B*(t+1):=by rw[Nat.mul_add,Nat.mul_comm];omega
    rw[this,Nat.add_mul_mod_self_left,Nat.mod_eq_of_lt oM]
   have e2:(t*B+k)/B=t+1:=by
    have:t*B+k=(k-B)+B*(t+1):=by rw[Nat.mul_add,Nat.mul_comm];omega
    rw[this,Nat.add_mul_div_left _ _ hB,Nat.div_eq_of_lt oM];omega
   rw[e1,e2,show B+(k-B)=k by omega,Nat.add_sub_cancel]
  .have hk:k=2*B:=oM;subst hk;have e0:t*B+2*B=0+B*(t+2):=by rw[Nat.mul_add,Nat.mul_comm];omega
   rw[e0,Nat.add_mul_mod_self_left,Nat.add_mul_div_left _ _ hB,Nat.zero_mod,Nat.zero_div];rw[show 0+(t+2)-1=t+1 by omega,Nat.pow_succ]
   grind
theorem LU(p r:Nat):∃t k,r=t*2^p+k/\k<2*2^p/\(t=0\/2^p<=k)/\t=r/2^p-1:=by
 have hB:0<2^p:=Nat.two_pow_pos p;generalize 2^p=B at *;have hd:=Nat.div_add_mod r B;have hm:=Nat.mod_lt r hB;rcases Nat.lt_or_ge r B with c|c
 .exact⟨0,r,oM,oM,Or.inl rfl,by rw[Nat.div_eq_of_lt c]⟩
 .have:1<=r/B:=(Nat.le_div_iff_mul_le hB).2 oM;obtain⟨t,ht⟩:∃t,r/B=t+1:=⟨r/B-1,oM⟩
  refine⟨t,B+r%B,?_,oM,Or.inr oM,oM⟩;rw[ht,Nat.mul_add,Nat.mul_comm]at hd;omega
theorem TR(p r:Nat):V p (r+1)=V p r+2^(r/2^p-1):=by
 obtain⟨t,k,hr,hk,h,ht⟩:=LU p r;have e1:V p r=k*2^t:=by rw[hr];exact V8 p t k oM h
 have e2:V p (r+1)=(k+1)*2^t:=by rw[hr,Nat.add_assoc];exact V8 p t (k+1) oM oM
 rw[e1,e2,<-ht,Nat.add_mul,Nat.one_mul]
theorem Hv(p r:Nat):V p r<V p (r+1):=by
 rw[TR];have:=Nat.two_pow_pos (r/2^p-1);omega
theorem Va(p:Nat){r s:Nat}(h:r<s):V p r<V p s:=by
 induction s with
 |zero=>omega
 |succ s ih=>
  rcases Nat.lt_or_ge r s with c|c
  .exact Nat.lt_trans (ih c) (Hv p s)
  .have:r=s:=oM;subst this;exact Hv p r
theorem P5(p:Nat){r s:Nat}(h:V p r=V p s):r=s:=by
 rcases Nat.lt_trichotomy r s with c|c|c
 .have:=Va p c;omega
 .exact c
 .have:=Va p c;omega
theorem KK(p:Nat):V p 0=0:=by
 have hB:0<2^p:=Nat.two_pow_pos p;simp[V,hB]
structure Cut(n d k t:Nat):Prop where
 up:2*n<=(2*k+1)*2^t*d
 ue:2*n=(2*k+1)*2^t*d->k%2=0
 dn:2*k*2^t*d<=2*n+2^t*d
 de:2*k*2^t*d=2*n+2^t*d->k%2=0
def UO(p:Nat)(L:Int)(mag:Nat)(place:Int):Nat:=
 if mag=0 then 0 else
 (max (place+mag.log2-p) L-L).toNat*2^p+Ieee.Toward.even.cut false (mag<<<(place-max (place+mag.log2-p) L).toNat) (max (place+mag.log2-p) L-place).toNat
def ng(a:Nat):Bool:=a/2147483648%2==1
def rg(a:Nat):Nat:=a%2147483648
def te(a:Nat):Nat:=rg a/8388608-1
def mv(a:Nat):Nat:=V 23 (rg a)
def sg(s:Bool)(m:Nat):Int:=if s then -(m:Int)else m
def sv(a:Nat):Int:=sg (ng a) (mv a)
def R(n:Nat):Nat:=UO 23 (-149) n (-149)

abbrev Vm:ByteArray:={data:=#[48,49,50,51,52,53,54,55,56,57,97,98,99,100,101,102]}
def Dr(n:Nat):UInt8:=if n<10 then UInt8.ofNat (48+n)else UInt8.ofNat (87+n)
theorem GJ:∀ (n:Nat) (h:n<ByteArray.size {data:=#[48,49,50,51,52,53,54,55,56,57,97,98,99,100,101,102]}),
 ({data:=#[48,49,50,51,52,53,54,55,56,57,97,98,99,100,101,102]}:ByteArray)[n]'h=Dr n:=by
 intro n h;have h':n<16:=h;revert h;revert n;decide
theorem Dm(n:Nat)(h:n<16):((Dr n).toNat:Int)=if n<10 then 48+(n:Int)else 87+(n:Int):=by
 revert n;decide
def CE(a:Int):ByteArray:=⟨#[Dr (a/268435456%16).toNat,Dr (a/16777216%16).toNat,Dr (a/1048576%16).toNat,Dr (a/65536%16).toNat,
 Dr (a/4096%16).toNat,Dr (a/256%16).toNat,Dr (a/16%16).toNat,Dr (a%16).toNat]⟩
theorem Ep(a:Int):(CE a).size=8:=rfl
def Bz(c:Int):Bool:=decide ((48<=c/\c<=57)\/(97<=c/\c<=102))
def Bn(c:Int):Int:=if c<=57 then c-48 else c-87
theorem Cr(c:Int):Bz c=true↔((48<=c/\c<=57)\/(97<=c/\c<=102)):=by unfold Bz;simp
theorem O4(c:Int):Bz c=false↔¬ ((48<=c/\c<=57)\/(97<=c/\c<=102)):=by unfold Bz;simp
theorem BK(c:Int)(h:Bz c=true):0<=Bn c/\Bn c<16:=by
 rw[Cr]at h;unfold Bn;split<;>omega
def DX(l:List UInt8):Int:=l.foldl (fun n c=>n*16+Bn (c.toNat:Int)) 0
def B8(l:List UInt8):Bool:=l.length==8&&l.all fun c=>Bz (c.toNat:Int)
theorem G0(l:List UInt8)(c:UInt8):DX (l++[c])=DX l*16+Bn (c.toNat:Int):=by simp[DX]
theorem Ju:∀ (n:Nat) (l:List UInt8),l.length=n->(∀c∈l,Bz (c.toNat:Int)=true)->0<=DX l/\DX l<16^n:=by
 intro n;induction n with
 |zero=>intro l h _;have:l=[]:=List.length_eq_zero_iff.1 h;subst this;simp[DX]
 |succ n ih=>
  intro l h hx;have hne:l≠[]:=by intro e;subst e;simp at h
  obtain⟨l',c,rfl⟩:∃l' c,l=l'++[c]:=⟨l.dropLast,l.getLast hne,(List.dropLast_concat_getLast hne).symm⟩
  have:=ih l' TZ (fun d hd=>hx d (by simp[hd]));have hc:=BK _ (hx c sM);rw[G0,Int.pow_succ];omega
theorem FX(s:ByteArray)(k:Nat)(h:k<s.size):s.data.toList.take (k+1)=s.data.toList.take k++[s[k]]:=by
 rw[List.take_succ_eq_append_getElem TZ];rfl
theorem Il(s:ByteArray)(k:Nat)(h:k<s.size):s[k]∈s.data.toList:=by
 have:s.data.toList[k]' TZ∈s.data.toList:=gD _;exact this
def K8(l:List UInt8):Int:=if B8 l then DX l else 0
theorem Fl(l:List UInt8)(h:B8 l=true):K8 l=DX l:=by unfold K8;simp[h]
theorem GU(l:List UInt8)(h:B8 l=false):K8 l=0:=by unfold K8;simp[h]
theorem GI(l:List UInt8)(h:l.length=8)(ha:∀c∈l,Bz (c.toNat:Int)=true):B8 l=true:=by
 unfold B8;simp[h];exact ha
theorem I8(l:List UInt8)(h:¬l.length=8):B8 l=false:=by unfold B8;simp[h]
theorem I7(l:List UInt8)(c:UInt8)(hc:c∈l)(h:Bz (c.toNat:Int)=false):B8 l=false:=by
 unfold B8;rw[Bool.and_eq_false_iff];right;rw[List.all_eq_false];exact⟨c,hc,by simp[h]⟩
theorem FG(l:List UInt8)(h:B8 l=true):l.length=8/\∀c∈l,Bz (c.toNat:Int)=true:=by
 unfold B8 at h;simpa using h
theorem Jc(l:List UInt8):0<=K8 l/\K8 l<4294967296:=by
 cases h:B8 l
 .rw[GU l h];omega
 .obtain⟨h8,ha⟩:=FG l h;have:=Ju 8 l h8 ha;rw[Fl l h];simpa using this
def OY(c:Int)(k:Nat):Int:=if Bz c=true/\Bn c<k then Bn c else -1
theorem RP(c:Int)(k:Nat)(hk:k<16)(h:((Dr k).toNat:Int)=c):OY c (k+1)=k:=by
 rw[Dm k hk]at h;have hx:Bz c=true:=by rw[Cr];split at h<;>omega
 have hd:Bn c=k:=by unfold Bn;split at h<;>split<;>omega
 unfold OY;rw[if_pos ⟨hx,oM⟩,hd]
theorem Pe(c:Int)(k:Nat)(hk:k<16)(h:((Dr k).toNat:Int)≠c):OY c (k+1)=OY c k:=by
 rw[Dm k hk]at h;have hd:Bz c=true->Bn c≠k:=by
  intro hx hd;rw[Cr]at hx;unfold Bn at hd;split at h<;>split at hd<;>omega
 unfold OY;by_cases hx:Bz c=true
 .have:=hd hx;by_cases hl:Bn c<k
  .rw[if_pos ⟨hx,oM⟩,if_pos ⟨hx,hl⟩]
  .rw[if_neg oM,if_neg oM]
 .simp[hx]
theorem KW(c:Int)(h:Bz c=true):OY c 16=Bn c:=by
 have:=BK c h;unfold OY;rw[if_pos ⟨h,oM⟩]
theorem NC(c:Int)(h:Bz c=false):OY c 16= -1:=by unfold OY;simp[h]
theorem Vh(c:Int):OY c 0= -1:=by
 unfold OY;rw[if_neg];rintro⟨h,g⟩;have:=BK c h;omega
theorem Cx(n:Nat)(h:n<16):Bn ((Dr n).toNat:Int)=n:=by
 rw[Dm n h];unfold Bn;split<;>split<;>omega
theorem O3(n:Nat)(h:n<16):Bz ((Dr n).toNat:Int)=true:=by
 rw[Dm n h,Cr];split<;>omega
theorem Cw(c:UInt8)(h:Bz (c.toNat:Int)=true):Dr (Bn (c.toNat:Int)).toNat=c:=by
 have hd:=BK _ h;obtain⟨n,hn⟩:∃n:Nat,(n:Int)=Bn (c.toNat:Int):=⟨(Bn (c.toNat:Int)).toNat,oM⟩
 have hn':(Bn (c.toNat:Int)).toNat=n:=oM;rw[hn'];have e:=Dm n oM;rw[Cr]at h;apply UInt8.toNat_inj.1;unfold Bn at hn;split at e<;>split at hn<;>omega
theorem FH(a:Int):B8 (CE a).data.toList=true:=by
 apply GI
 .rfl
 .intro c hc;have hc':c∈[Dr (a/268435456%16).toNat,Dr (a/16777216%16).toNat,Dr (a/1048576%16).toNat,Dr (a/65536%16).toNat,Dr (a/4096%16).toNat,Dr (a/256%16).toNat,Dr (a/16%16).toNat,Dr (a%16).toNat]:=hc;simp only[List.mem_cons,List.not_mem_nil,or_false]at hc';rcases hc' with rfl|rfl|rfl|rfl|rfl|rfl|rfl|rfl
  all_goals exact O3 _ oM
theorem Xd(x0 x1 x2 x3 x4 x5 x6 x7:Nat)(h0:x0<16)(h1:x1<16)(h2:x2<16)(h3:x3<16)(h4:x4<16)(h5:x5<16)(h6:x6<16)(h7:x7<16):
 DX [Dr x7,Dr x6,Dr x5,Dr x4,Dr x3,Dr x2,Dr x1,Dr x0]=x7*268435456+x6*16777216+x5*1048576+x4*65536+x3*4096+x2*256+x1*16+x0:=by
 unfold DX;simp only[List.foldl_cons,List.foldl_nil,Cx _ h0,Cx _ h1,Cx _ h2,Cx _ h3,Cx _ h4,Cx _ h5,Cx _ h6,Cx _ h7];omega
theorem Xc(a q1 q2 q3 q4 q5 q6 q7:Int)(b0:a%16+16*q1=a)(b1:q1/16=q2)(b2:q2/16=q3)(b3:q3/16=q4)(b4:q4/16=q5)(b5:q5/16=q6)(b6:q6/16=q7)(b7:q7/16=0):
 (q7%16)*268435456+(q6%16)*16777216+(q5%16)*1048576+(q4%16)*65536+(q3%16)*4096+(q2%16)*256+(q1%16)*16+a%16=a:=oM
theorem Qn(a:Int)(h0:0<=a)(h1:a<4294967296):K8 (CE a).data.toList=a:=by
 rw[Fl _ (FH a)];have hl:(CE a).data.toList=[Dr (a/268435456%16).toNat,Dr (a/16777216%16).toNat,Dr (a/1048576%16).toNat,Dr (a/65536%16).toNat,Dr (a/4096%16).toNat,Dr (a/256%16).toNat,Dr (a/16%16).toNat,Dr (a%16).toNat]:=rfl;rw[hl,Xd _ _ _ _ _ _ _ _ oM oM oM oM oM oM oM oM];have s:=Xc a (a/16) (a/256) (a/4096) (a/65536) (a/1048576) (a/16777216) (a/268435456) oM oM oM oM oM oM oM oM;have t:∀y:Int,((y%16).toNat:Int)=y%16:=fun y=>by omega
 rw[t,t,t,t,t,t,t,t];exact s
theorem Vo{α:Type}(l:List α)(h:l.length=8):∃a b c d e f g i,l=[a,b,c,d,e,f,g,i]:=by
 match l,h with
 |[a,b,c,d,e,f,g,i],_=>exact⟨a,b,c,d,e,f,g,i,rfl⟩
theorem Pw(s:ByteArray)(h:B8 s.data.toList=true):CE (K8 s.data.toList)=s:=by
 obtain⟨h8,ha⟩:=FG _ h;rw[Fl _ h];obtain⟨c0,c1,c2,c3,c4,c5,c6,c7,hl⟩:=Vo _ h8;have hs:s=⟨[c0,c1,c2,c3,c4,c5,c6,c7].toArray⟩:=by
  apply ByteArray.ext;rw[<-hl]
 rw[hl]at ha |-;have a0:=ha c0 sM;have a1:=ha c1 sM;have a2:=ha c2 sM;have a3:=ha c3 sM;have a4:=ha c4 sM;have a5:=ha c5 sM;have a6:=ha c6 sM;have a7:=ha c7 sM;have d0:=BK _ a0;have d1:=BK _ a1;have d2:=BK _ a2;have d3:=BK _ a3;have d4:=BK _ a4;have d5:=BK _ a5;have d6:=BK _ a6;have d7:=BK _ a7;rw[hs];have e0:=Cw c0 a0;have e1:=Cw c1 a1;have e2:=Cw c2 a2;have e3:=Cw c3 a3;have e4:=Cw c4 a4;have e5:=Cw c5 a5;have e6:=Cw c6 a6;have e7:=Cw c7 a7;have hv:DX [c0,c1,c2,c3,c4,c5,c6,c7]=Bn (c0.toNat:Int)*268435456+Bn (c1.toNat:Int)*16777216+Bn (c2.toNat:Int)*1048576+Bn (c3.toNat:Int)*65536+Bn (c4.toNat:Int)*4096+Bn (c5.toNat:Int)*256+Bn (c6.toNat:Int)*16+Bn (c7.toNat:Int):=by
  unfold DX;simp only[List.foldl_cons,List.foldl_nil];omega
 rw[hv];clear hv ha hl hs h8 h;generalize Bn (c0.toNat:Int)=x0 at *;generalize Bn (c1.toNat:Int)=x1 at *;generalize Bn (c2.toNat:Int)=x2 at *;generalize Bn (c3.toNat:Int)=x3 at *;generalize Bn (c4.toNat:Int)=x4 at *;generalize Bn (c5.toNat:Int)=x5 at *;generalize Bn (c6.toNat:Int)=x6 at *;generalize Bn (c7.toNat:Int)=x7 at *;obtain⟨v,hv⟩:=gA (x0*268435456+x1*16777216+x2*1048576+x3*65536+x4*4096+x5*256+x6*16+x7)
 rw[hv];unfold CE;rw[show v/268435456%16=x0 by omega,show v/16777216%16=x1 by omega,show v/1048576%16=x2 by omega,show v/65536%16=x3 by omega,show v/4096%16=x4 by omega,show v/256%16=x5 by omega,show v/16%16=x6 by omega,show v%16=x7 by omega];rw[e0,e1,e2,e3,e4,e5,e6,e7]
section
open Go.Lib (decDigits)
def An(n:Int):Bs:=decDigits n.toNat
theorem Mh{u:Nat}(h:¬u<10):decDigits u=decDigits (u/10)++[UInt8.ofNat (48+u%10)]:=by rw[decDigits,dif_neg h]
theorem Fb{u:Nat}(h:u<10):decDigits u=[UInt8.ofNat (48+u)]:=by rw[decDigits,dif_pos h]
theorem GF{k:Nat}(h:k<10):(UInt8.ofNat (48+k)).toNat=48+k:=by rw[UInt8.toNat_ofNat'];omega
theorem FD:∀u:Nat,decDigits u≠[]/\(∀b∈decDigits u,Gg b)/\(0<u->hd (decDigits u)≠48)/\Ba 0 (decDigits u)=(u:Int):=by
 intro u;induction u using Nat.strongRecOn with
 |_ u ih=>
  by_cases h:u<10
  .rw[Fb h];refine⟨sM,fun b hb=>?_,fun h0=>?_,?_⟩
   .rw[List.mem_singleton.1 hb];unfold Gg;rw[GF h];omega
   .simp only[hd,nb,GF h];omega
   .simp only[Ba,nb,GF h];omega
  .obtain⟨h1,h2,h3,h4⟩:=ih (u/10) oM;rw[Mh h];refine⟨sM,fun b hb=>?_,fun _=>?_,?_⟩
   .rcases List.mem_append.1 hb with hb|hb
    .exact h2 b hb
    .rw[List.mem_singleton.1 hb];unfold Gg;rw[GF oM];omega
   .have h5:=h3 oM;cases hq:decDigits (u/10)with
    |nil=>exact absurd hq h1
    |cons b t=>rw[hq]at h5;exact h5
   .rw[Db,h4];simp only[Ba,nb,GF (show u%10<10 by omega)];omega
theorem ET:∀ (k u:Nat),u<10^(k+1)->(decDigits u).length<=k+1
 |0,u,h=>by rw[Fb TZ];simp
 |k+1,u,h=>by
  by_cases h1:u<10
  .rw[Fb h1];simp
  .rw[Mh h1,List.length_append,List.length_singleton];have:=ET k (u/10) (by rw[Nat.pow_succ]at h |-;omega);omega
def Af(s:Bs):Option Int:=
 if s.isEmpty||decide (10<s.length)||(decide (1<s.length)&&hd s==48)then none
 else if(s.all fun b=>FP (nb b))then(if Ba 0 s<=2147483647 then some (Ba 0 s)else none)else none
theorem SB{b:UInt8}:FP (nb b)=true↔Gg b:=by
 unfold FP nb Gg;simp only[Bool.and_eq_true,decide_eq_true_eq];omega
theorem CL{s:Bs}{n:Int}(h:Af s=some n):(0<=n/\n<=2147483647)/\s=An n:=by
 unfold Af at h;split at h
 .cases h
 .rename_i h1;simp only[Bool.or_eq_true,Bool.and_eq_true,decide_eq_true_eq,beq_iff_eq,List.isEmpty_iff,not_or,not_and]at h1;obtain⟨⟨h0,hl⟩,hz⟩:=h1;split at h
  .rename_i h2;have hdg:∀b∈s,Gg b:=fun b hb=>SB.1 (List.all_eq_true.1 h2 b hb);split at h
   .rename_i h3;cases h
    have hnn:=Jt s 0 dE hdg;refine⟨⟨hnn,h3⟩,?_⟩;unfold An;by_cases h4:hd s=48
    .have hs1:s.length=1:=by
      have h5:0<s.length:=List.length_pos_iff.2 h0;rcases Nat.lt_or_ge 1 s.length with q|q
      .exact absurd h4 (hz q)
      .omega
     match s,hs1 with
     |[b],_=>
      have hb:b=48:=by
       have:nb b=48:=h4;unfold nb at this;exact UInt8.toNat_inj.1 (by show b.toNat=48;omega)
      subst hb;show _=decDigits (0:Nat);rw[Fb dE];rfl
    .exact(Mi s.length s (gF _) h0 h4 hdg).symm
   .cases h
  .cases h
theorem FL{n:Int}(h0:0<=n)(h1:n<=2147483647):Af (An n)=some n:=by
 obtain⟨d1,d2,d3,d4⟩:=FD n.toNat;have hv:Ba 0 (An n)=n:=by unfold An;rw[d4];omega
 have hl:(An n).length<=10:=ET 9 n.toNat oM;unfold Af;rw[if_neg ?_,if_pos ?_,hv,if_pos h1]
 .exact List.all_eq_true.2 fun b hb=>SB.2 (d2 b hb)
 .simp only[Bool.or_eq_true,Bool.and_eq_true,decide_eq_true_eq,beq_iff_eq,List.isEmpty_iff,not_or,not_and];refine⟨⟨d1,oM⟩,fun h2=>?_⟩;rcases Nat.eq_zero_or_pos n.toNat with q|q
  .unfold An at h2;rw[q,Fb dE]at h2;exact absurd h2 dE
  .exact d3 q
theorem Cv{s:Bs}{n:Int}:Af s=some n↔(0<=n/\n<=2147483647)/\s=An n:=
 ⟨CL,fun⟨⟨h0,h1⟩,e⟩=>by rw[e];exact FL h0 h1⟩
def Bq(s:Bs):Prop:=∀b∈s,nb b≠32/\nb b≠10
theorem CV(n:Int):Bq (An n):=fun b hb=>by
 have:=(FD n.toNat).2.1 b hb;unfold Gg at this;unfold nb;omega
def A7:List Bs->Bs
 |[]=>[]
 |[a]=>a
 |a::b::r=>a++32::A7 (b::r)
theorem Hl:∀ (ws:List Bs),ws≠[]->(∀w∈ws,Bq w)->Ai [] (A7 ws)=ws
 |[],h,_=>absurd rfl h
 |[a],_,h=>by
  rw[A7,IK a [] (fun b hb=>(h a sM b hb).1)];rfl
 |a::b::r,_,h=>by
  rw[A7,IJ a [] _ (fun c hc=>(h a sM c hc).1),Hl (b::r) sM (fun w hw=>h w (List.mem_cons_of_mem _ hw))];rfl
theorem Be{a:Bs}{ws:List Bs}(h:ws≠[]):A7 (a::ws)=a++32::A7 ws:=by
 cases ws with
 |nil=>exact absurd rfl h
 |cons b r=>rfl
theorem Dt:∀ (s cur:Bs),A7 (Ai cur s)=cur++s
 |[],cur=>by simp[Ai,A7]
 |b::t,cur=>by
  unfold Ai;by_cases h:nb b=32
  .rw[if_pos U1,Be (Fx t []),Dt t []];have hb:b=32:=UInt8.toNat_inj.1 (by unfold nb at h;show b.toNat=32;omega);rw[hb];rfl
  .rw[if_neg U1,Dt t (cur++[b])];simp
theorem DJ:∀ (s cur:Bs),(∀b∈cur,nb b≠32)->∀w∈Ai cur s,∀b∈w,nb b≠32
 |[],cur,h,w,hw,b,hb=>by
  simp only[Ai,List.mem_singleton]at hw;subst hw;exact h b hb
 |c::t,cur,h,w,hw,b,hb=>by
  unfold Ai at hw;by_cases hc:nb c=32
  .rw[if_pos P7]at hw;rcases List.mem_cons.1 hw with e|hw
   .subst e;exact h b hb
   .exact DJ t [] (fun _ h=>by cases h) w hw b hb
  .rw[if_neg P7]at hw;refine DJ t (cur++[c]) (fun x hx=>?_) w hw b hb;rcases List.mem_append.1 hx with hx|hx
   .exact h x hx
   .rw[List.mem_singleton.1 hx];exact hc
def Bv:Bs->Bs->List Bs×Bs
 |cur,[]=>([],cur)
 |cur,b::t=>if nb b==10 then((cur::(Bv [] t).1),(Bv [] t).2)else Bv (cur++[b]) t
theorem IN:∀ (x cur r:Bs),(∀b∈x,nb b≠10)->Bv cur (x++10::r)=((cur++x)::(Bv [] r).1,(Bv [] r).2)
 |[],cur,r,_=>by
  rw[List.nil_append,Bv,if_pos rF,List.append_nil]
 |b::x,cur,r,h=>by
  rw[List.cons_append,Bv,if_neg (by simpa using h b sM),IN x (cur++[b]) r (fun c hc=>h c P7)];simp
theorem JF:∀ (ls:List Bs),(∀l∈ls,∀b∈l,nb b≠10)->Bv [] (ls.flatMap fun x=>x++[10])=(ls,[])
 |[],_=>rfl
 |l::ls,h=>by
  rw[List.flatMap_cons,List.append_assoc,List.singleton_append,IN l [] _ (h l sM),JF ls (fun x hx=>h x (List.mem_cons_of_mem _ hx))];rfl
end
end Go.Proofs.YtjlpkjblkllfbaaGreatDoor
