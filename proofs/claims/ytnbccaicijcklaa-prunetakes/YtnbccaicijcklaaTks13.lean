import Derived.Test.YtnbccaicijcklaaTks9
import Derived.Test.YtnbccaicijcklaaTks8
import Derived.DeepKeys4
import Derived.Test.YtnbccaicijcklaaTks1
namespace Go.Proofs.Ytnbccaicijcklaa
open Go.RowKit Go.Proofs.Try
set_option linter.all false
set_option maxRecDepth 100000
set_option maxHeartbeats 16000000
theorem GI(op:Int)(h:An op=false)(w:World):Calls prog 37 #[.int .i64 op] w fun e w'=>e=.returned (.tuple #[.string ⟨#[]⟩,.bool false])/\w'=w:=by
 have hh:op<1\/37<op:=by unfold An at h;simp at h;omega
 have e1:(op==1)=false:=by have:op≠1:=oM;simpa using this
 have e2:(op==2)=false:=by have:op≠2:=oM;simpa using this
 have e3:(op==3)=false:=by have:op≠3:=oM;simpa using this
 have e4:(op==4)=false:=by have:op≠4:=oM;simpa using this
 have e5:(op==5)=false:=by have:op≠5:=oM;simpa using this
 have e6:(op==6)=false:=by have:op≠6:=oM;simpa using this
 have e7:(op==7)=false:=by have:op≠7:=oM;simpa using this
 have e8:(op==8)=false:=by have:op≠8:=oM;simpa using this
 have e9:(op==9)=false:=by have:op≠9:=oM;simpa using this
 have e10:(op==10)=false:=by have:op≠10:=oM;simpa using this
 have e11:(op==11)=false:=by have:op≠11:=oM;simpa using this
 have e12:(op==12)=false:=by have:op≠12:=oM;simpa using this
 have e13:(op==13)=false:=by have:op≠13:=oM;simpa using this
 have e14:(op==14)=false:=by have:op≠14:=oM;simpa using this
 have e15:(op==15)=false:=by have:op≠15:=oM;simpa using this
 have e16:(op==16)=false:=by have:op≠16:=oM;simpa using this
 have e17:(op==17)=false:=by have:op≠17:=oM;simpa using this
 have e18:(op==18)=false:=by have:op≠18:=oM;simpa using this
 have e19:(op==19)=false:=by have:op≠19:=oM;simpa using this
 have e20:(op==20)=false:=by have:op≠20:=oM;simpa using this
 have e21:(op==21)=false:=by have:op≠21:=oM;simpa using this
 have e22:(op==22)=false:=by have:op≠22:=oM;simpa using this
 have e23:(op==23)=false:=by have:op≠23:=oM;simpa using this
 have e24:(op==24)=false:=by have:op≠24:=oM;simpa using this
 have e25:(op==25)=false:=by have:op≠25:=oM;simpa using this
 have e26:(op==26)=false:=by have:op≠26:=oM;simpa using this
 have e27:(op==27)=false:=by have:op≠27:=oM;simpa using this
 have e28:(op==28)=false:=by have:op≠28:=oM;simpa using this
 have e29:(op==29)=false:=by have:op≠29:=oM;simpa using this
 have e30:(op==30)=false:=by have:op≠30:=oM;simpa using this
 have e31:(op==31)=false:=by have:op≠31:=oM;simpa using this
 have e32:(op==32)=false:=by have:op≠32:=oM;simpa using this
 have e33:(op==33)=false:=by have:op≠33:=oM;simpa using this
 have e34:(op==34)=false:=by have:op≠34:=oM;simpa using this
 have e35:(op==35)=false:=by have:op≠35:=oM;simpa using this
 have e36:(op==36)=false:=by have:op≠36:=oM;simpa using this
 have e37:(op==37)=false:=by have:op≠37:=oM;simpa using this
 clear hh h;exact Dr
structure O0(r:Rw)(a b c d e:UInt8):Prop where
 a:(a==45)=(r.d==0)
 b:(b==45)=(r.a==0)
 c:(c==45)=(r.b==0)
 d:(d==45)=(r.c==0)
theorem Ip(op:Int)(w:World):(An op=false/\Calls prog 37 #[.int .i64 op] w fun e w'=>e=.returned (.tuple #[.string ⟨#[]⟩,.bool false])/\w'=w)\/(An op=true/\∃a b c d e:UInt8,O0 (A4 op) a b c d e/\∀w,Calls prog 37 #[.int .i64 op] w fun x w'=>x=.returned (.tuple #[.string ⟨#[a,b,c,d,e]⟩,.bool true])/\w'=w):=by
 by_cases h:An op=false
 ·exact .inl ⟨h,GI op h w⟩
 ·have hh:1<=op/\op<=37:=by unfold An at h;simp at h;omega
  refine .inr ⟨by simpa using h,?_⟩;clear h;by_cases k1:op=1
  ·subst k1;exact⟨_,_,_,_,_,⟨rfl,rfl,rfl,rfl⟩,fun w=>Ns w⟩
  by_cases k2:op=2
  ·subst k2;exact⟨_,_,_,_,_,⟨rfl,rfl,rfl,rfl⟩,fun w=>Nt w⟩
  by_cases k3:op=3
  ·subst k3;exact⟨_,_,_,_,_,⟨rfl,rfl,rfl,rfl⟩,fun w=>Nu w⟩
  by_cases k4:op=4
  ·subst k4;exact⟨_,_,_,_,_,⟨rfl,rfl,rfl,rfl⟩,fun w=>Nv w⟩
  by_cases k5:op=5
  ·subst k5;exact⟨_,_,_,_,_,⟨rfl,rfl,rfl,rfl⟩,fun w=>Nw w⟩
  by_cases k6:op=6
  ·subst k6;exact⟨_,_,_,_,_,⟨rfl,rfl,rfl,rfl⟩,fun w=>Nx w⟩
  by_cases k7:op=7
  ·subst k7;exact⟨_,_,_,_,_,⟨rfl,rfl,rfl,rfl⟩,fun w=>Ny w⟩
  by_cases k8:op=8
  ·subst k8;exact⟨_,_,_,_,_,⟨rfl,rfl,rfl,rfl⟩,fun w=>Nz w⟩
  by_cases k9:op=9
  ·subst k9;exact⟨_,_,_,_,_,⟨rfl,rfl,rfl,rfl⟩,fun w=>NA w⟩
  by_cases k10:op=10
  ·subst k10;exact⟨_,_,_,_,_,⟨rfl,rfl,rfl,rfl⟩,fun w=>JZ w⟩
  by_cases k11:op=11
  ·subst k11;exact⟨_,_,_,_,_,⟨rfl,rfl,rfl,rfl⟩,fun w=>K6 w⟩
  by_cases k12:op=12
  ·subst k12;exact⟨_,_,_,_,_,⟨rfl,rfl,rfl,rfl⟩,fun w=>K7 w⟩
  by_cases k13:op=13
  ·subst k13;exact⟨_,_,_,_,_,⟨rfl,rfl,rfl,rfl⟩,fun w=>K8 w⟩
  by_cases k14:op=14
  ·subst k14;exact⟨_,_,_,_,_,⟨rfl,rfl,rfl,rfl⟩,fun w=>K9 w⟩
  by_cases k15:op=15
  ·subst k15;exact⟨_,_,_,_,_,⟨rfl,rfl,rfl,rfl⟩,fun w=>Ka w⟩
  by_cases k16:op=16
  ·subst k16;exact⟨_,_,_,_,_,⟨rfl,rfl,rfl,rfl⟩,fun w=>Kb w⟩
  by_cases k17:op=17
  ·subst k17;exact⟨_,_,_,_,_,⟨rfl,rfl,rfl,rfl⟩,fun w=>Kc w⟩
  by_cases k18:op=18
  ·subst k18;exact⟨_,_,_,_,_,⟨rfl,rfl,rfl,rfl⟩,fun w=>Ke w⟩
  by_cases k19:op=19
  ·subst k19;exact⟨_,_,_,_,_,⟨rfl,rfl,rfl,rfl⟩,fun w=>Kf w⟩
  by_cases k20:op=20
  ·subst k20;exact⟨_,_,_,_,_,⟨rfl,rfl,rfl,rfl⟩,fun w=>Kg w⟩
  by_cases k21:op=21
  ·subst k21;exact⟨_,_,_,_,_,⟨rfl,rfl,rfl,rfl⟩,fun w=>Kh w⟩
  by_cases k22:op=22
  ·subst k22;exact⟨_,_,_,_,_,⟨rfl,rfl,rfl,rfl⟩,fun w=>Ki w⟩
  by_cases k23:op=23
  ·subst k23;exact⟨_,_,_,_,_,⟨rfl,rfl,rfl,rfl⟩,fun w=>Kj w⟩
  by_cases k24:op=24
  ·subst k24;exact⟨_,_,_,_,_,⟨rfl,rfl,rfl,rfl⟩,fun w=>Kk w⟩
  by_cases k25:op=25
  ·subst k25;exact⟨_,_,_,_,_,⟨rfl,rfl,rfl,rfl⟩,fun w=>Kl w⟩
  by_cases k26:op=26
  ·subst k26;exact⟨_,_,_,_,_,⟨rfl,rfl,rfl,rfl⟩,fun w=>Km w⟩
  by_cases k27:op=27
  ·subst k27;exact⟨_,_,_,_,_,⟨rfl,rfl,rfl,rfl⟩,fun w=>Kn w⟩
  by_cases k28:op=28
  ·subst k28;exact⟨_,_,_,_,_,⟨rfl,rfl,rfl,rfl⟩,fun w=>Ko w⟩
  by_cases k29:op=29
  ·subst k29;exact⟨_,_,_,_,_,⟨rfl,rfl,rfl,rfl⟩,fun w=>Kp w⟩
  by_cases k30:op=30
  ·subst k30;exact⟨_,_,_,_,_,⟨rfl,rfl,rfl,rfl⟩,fun w=>Kq w⟩
  by_cases k31:op=31
  ·subst k31;exact⟨_,_,_,_,_,⟨rfl,rfl,rfl,rfl⟩,fun w=>Kr w⟩
  by_cases k32:op=32
  ·subst k32;exact⟨_,_,_,_,_,⟨rfl,rfl,rfl,rfl⟩,fun w=>Ks w⟩
  by_cases k33:op=33
  ·subst k33;exact⟨_,_,_,_,_,⟨rfl,rfl,rfl,rfl⟩,fun w=>Kt w⟩
  by_cases k34:op=34
  ·subst k34;exact⟨_,_,_,_,_,⟨rfl,rfl,rfl,rfl⟩,fun w=>Ku w⟩
  by_cases k35:op=35
  ·subst k35;exact⟨_,_,_,_,_,⟨rfl,rfl,rfl,rfl⟩,fun w=>Kv w⟩
  by_cases k36:op=36
  ·subst k36;exact⟨_,_,_,_,_,⟨rfl,rfl,rfl,rfl⟩,fun w=>Kw w⟩
  by_cases k37:op=37
  ·subst k37;exact⟨_,_,_,_,_,⟨rfl,rfl,rfl,rfl⟩,fun w=>Kx w⟩
  omega
structure Rk where
 by_:Aa
 of_:Ty
 deriving DecidableEq
structure RW where
 ins:Nat->Nat
 hold:Rk->Option Nat
 reck:List Rk
 opn:List Nat
 left:List Aa
def Ad(i:Aa):Bool:=decide ((A4 i.op).d≠0)
theorem KA{i:Aa}(h:Ad i=true):i.op≠34/\i.op≠35/\i.op≠36/\i.op≠37:=by
 unfold Ad at h;simp only[decide_eq_true_eq]at h;refine⟨?_,?_,?_,?_⟩<;>(intro e;rw[e]at h;exact h dE)
theorem LF{s:Wk}{i:Aa}(h:Ad i=true):Cm s i=s:=by
 obtain⟨h1,h2,h3,h4⟩:=KA h;unfold Cm;rw[if_neg oM,if_neg oM]
theorem Ju{c:Cd}{x:Wk}{i:Aa}(t:AS c x i=true)(hs:Ad i=true):0<=i.d/\i.d<(c.regs.length:Int):=by
 obtain⟨_,t2,_,_⟩:=AG t;unfold Ad at hs;exact Al (CF t2) (by simpa using hs)
theorem GL{x:Wk}{i:Aa}(hs:Ad i=true):As x i=CR x i (A4 i.op):=by
 unfold As DM;rw[LF hs]
theorem Ml{s:Wk}{i:Aa}(h:Ad i=false):CR s i (A4 i.op)=s:=by
 unfold CR;rw[if_neg];unfold Ad at h;simp only[decide_eq_false_iff_not,Decidable.not_not]at h;exact fun e=>e.1 h
section
open Go.Maps (Keyed)
def RC(q:Rk):List Value:=[.int .i64 q.by_.op,.int .i64 q.by_.d,.int .i64 q.by_.a,.int .i64 q.by_.b,.int .i64 q.by_.c,.int .i64 q.by_.n,.int .u32 q.by_.bits,.int .i64 q.of_.kind,.int .i64 q.of_.par]
end
def NO(s:List Nat×Nat)(i:Aa):List Nat×Nat:=(if i.op=34\/i.op=36 then s.2::s.1 else if i.op=35\/i.op=37 then s.1.tail else s.1,s.2+1)
def LI(l:List Aa):List Nat×Nat:=l.foldl NO ([],0)
def At(l:List Aa):List Nat:=(LI l).1
theorem LJ(l:List Aa)(i:Aa):LI (l++[i])=NO (LI l) i:=by unfold LI;rw[List.foldl_append];rfl
theorem NN:∀ (l:List Aa),(LI l).2=l.length:=by
 have Cc:∀ (m:List Aa) (s:List Nat×Nat),(m.foldl NO s).2=s.2+m.length:=by
  intro m;induction m with
  |nil=>intro s;rfl
  |cons i m ih=>intro s;rw[List.foldl_cons,ih];unfold NO;simp;omega
 intro l;unfold LI;rw[Cc];simp
theorem Fa(l:List Aa)(i:Aa):At (l++[i])=if i.op=34\/i.op=36 then l.length::At l else if i.op=35\/i.op=37 then(At l).tail else At l:=by
 unfold At;rw[LJ];unfold NO;simp only;rw[NN]
def AH(K:Nat->Bool)(f:Aa->Aa)(l:List Aa):Nat->List Aa
 |0=>[]
 |j+1=>AH K f l j++(match l[j]? with |some i=>if K j then [f i]else [] |none=>[])
theorem Cx{K:Nat->Bool}{f:Aa->Aa}{l:List Aa}{j:Nat}(h:j<l.length)(hK:K j=true):AH K f l (j+1)=AH K f l j++[f l[j]]:=by
 show AH K f l j++_=_;rw[List.getElem?_eq_getElem h];simp[hK]
theorem EE{K:Nat->Bool}{f:Aa->Aa}{l:List Aa}{j:Nat}(hK:K j=false):AH K f l (j+1)=AH K f l j:=by
 show AH K f l j++_=_;cases l[j]? <;>simp[hK]
theorem DO(K:Nat->Bool)(f:Aa->Aa)(l:List Aa):∀j,(AH K f l j).length<=j
 |0=>Nat.le_refl _
 |j+1=>by
  have h:=DO K f l j;show(AH K f l j++_).length<=_;rw[List.length_append];have h2:(match l[j]? with |some i=>if K j then [f i]else [] |none=>([]:List Aa)).length<=1:=by
   split
   ·split<;>simp
   ·simp
  omega
inductive FC(U K:Nat->Bool):List Nat->List Nat->List Bk->List Bk->Prop where
 |nil {X:List Nat}:FC U K X [] [] []
 |skipL {X S:List Nat} {o o':List Bk} {b a:Nat} {p:Int} (hK:K b=false) (ha:a<=X.length) (hu:∀r∈X.drop a,U r=false) (h:FC U K X S o o'):FC U K X (b::S) (⟨true,p,a⟩::o) o'
 |skipW {X S:List Nat} {o o':List Bk} {b a:Nat} {p:Int} (hK:K b=false) (ha:a<=X.length) (hu:∀r∈X.drop a,U r=false) (h:FC U K (X.take a) S o o'):FC U K X (b::S) (⟨false,p,a⟩::o) o'
 |keepL {X S:List Nat} {o o':List Bk} {b a a':Nat} {p:Int} (hK:K b=true) (h:FC U K X S o o'):FC U K X (b::S) (⟨true,p,a⟩::o) (⟨true,p,a'⟩::o')
 |keepW {X S:List Nat} {o o':List Bk} {b a a':Nat} {p:Int} (hK:K b=true) (ha:a<=X.length) (e:a'=((X.take a).filter U).length) (h:FC U K (X.take a) S o o'):FC U K X (b::S) (⟨false,p,a⟩::o) (⟨false,p,a'⟩::o')
theorem FC.growK{U K:Nat->Bool}{X S:List Nat}{o o':List Bk}(h:FC U K X S o o'):(∀b∈S,K b=true)->∀Y,FC U K (X++Y) S o o':=by
 induction h with
 |nil=>exact fun _ _=>.nil
 |skipL hK _ _ _ _=>exact fun hS=>absurd ((hS _ List.mem_cons_self).symm.trans hK) sM
 |skipW hK _ _ _ _=>exact fun hS=>absurd ((hS _ List.mem_cons_self).symm.trans hK) sM
 |keepL hK h ih=>exact fun hS Y=>.keepL hK (ih (fun b hb=>hS b (by simp[hb])) Y)
 |keepW hK ha e h ih=>
  intro hS Y;exact SP
theorem FC.growN{U K:Nat->Bool}{X S:List Nat}{o o':List Bk}(h:FC U K X S o o'):∀Y,(∀r∈Y,U r=false)->FC U K (X++Y) S o o':=by
 induction h with
 |nil=>exact fun _ _=>.nil
 |skipL hK ha hu h ih=>
  intro Y hY;refine .skipL hK sO (fun r hr=>?_) (ih Y hY);rw[List.drop_append_of_le_length ha]at hr;rcases List.mem_append.1 hr with e|e
  ·exact hu r e
  ·exact hY r e
 |skipW hK ha hu h ih=>
  intro Y hY;refine .skipW hK sO (fun r hr=>?_) ?_
  ·rw[List.drop_append_of_le_length ha]at hr;rcases List.mem_append.1 hr with e|e
   ·exact hu r e
   ·exact hY r e
  ·rw[List.take_append_of_le_length ha];exact h
 |keepL hK h ih=>exact fun Y hY=>.keepL hK (ih Y hY)
 |keepW hK ha e h ih=>
  intro Y hY;exact SP
theorem FC.shape{U K:Nat->Bool}{X S:List Nat}{o o':List Bk}(h:FC U K X S o o'):(∀b∈S,K b=true)->o.length=o'.length/\∀V V',AA ⟨V,o⟩=AA ⟨V',o'⟩/\BE ⟨V,o⟩=BE ⟨V',o'⟩:=by
 induction h with
 |nil=>exact fun _=>⟨rfl,fun _ _=>⟨rfl,rfl⟩⟩
 |skipL hK _ _ _ _=>exact fun hS=>absurd ((hS _ List.mem_cons_self).symm.trans hK) sM
 |skipW hK _ _ _ _=>exact fun hS=>absurd ((hS _ List.mem_cons_self).symm.trans hK) sM
 |keepL hK h ih=>exact fun hS=>⟨by simp[(ih (fun b hb=>hS b (by simp[hb]))).1],fun _ _=>⟨rfl,rfl⟩⟩
 |keepW hK ha e h ih=>exact fun hS=>⟨by simp[(ih (fun b hb=>hS b (by simp[hb]))).1],fun _ _=>⟨rfl,rfl⟩⟩
theorem FC.len{U K:Nat->Bool}{X S:List Nat}{o o':List Bk}(h:FC U K X S o o'):S.length=o.length:=by
 induction h with
 |nil=>rfl
 |skipL _ _ _ _ ih=>simp[ih]
 |skipW _ _ _ _ ih=>simp[ih]
 |keepL _ _ ih=>simp[ih]
 |keepW _ _ _ _ ih=>simp[ih]
structure QR(c c':Cd)(K U:Nat->Bool)(f:Aa->Aa)(rho:Nat->Nat):Prop where
 hU:∀k (hk:k<c.list.length),Ad c.list[k]=true->U c.list[k].d.toNat=K k
 reads:∀k (hk:k<c.list.length),K k=true->∀r∈A9 c.list[k] (A4 c.list[k].op),(∃j,∃hj:j<c.list.length,Ad c.list[j]=true/\c.list[j].d.toNat=r.toNat)->U r.toNat=true
 around:∀k (hk:k<c.list.length),K k=true->∀b∈(if c.list[k].op=35\/c.list[k].op=37 then(At (c.list.take k)).tail else At (c.list.take k)),K b=true
 pair:∀k (hk:k<c.list.length),(c.list[k].op=35\/c.list[k].op=37)->∀b,(At (c.list.take k)).head?=some b->K b=K k
 inj:∀r s,U r=true->U s=true->rho r=rho s->r=s
 op:∀i,(f i).op=i.op
 n:∀i,(i.op=34\/i.op=35\/i.op=36\/i.op=37)->(f i).n=i.n
 fits:∀k (hk:k<c.list.length),K k=true->AW c c.list[k] (A4 c.list[k].op)=true->AW c' (f c.list[k]) (A4 c.list[k].op)=true
 main:∀k (hk:k<c.list.length),K k=true->c.list[k].op<35->AW c c.list[k] (A4 c.list[k].op)=true->Az c'.regs (f c.list[k]) (A4 c.list[k].op)=Az c.regs c.list[k] (A4 c.list[k].op)
 rd:∀i,A9 (f i) (A4 i.op)=(A9 i (A4 i.op)).map fun r=>((rho r.toNat:Nat):Int)
 d:∀i,Ad i=true->(f i).d.toNat=rho i.d.toNat
structure Qq(c:Cd)(K U:Nat->Bool)(rho:Nat->Nat)(j:Nat)(x x':Wk):Prop where
 set:x'.set=(x.set.filter U).map rho
 was:∀r∈x.set,∃k,∃hk:k<c.list.length,Ad c.list[k]=true/\c.list[k].d.toNat=r
 opens:FC U K x.set (At (c.list.take j)) x.opens x'.opens
section
variable {c c' : Cd} {K U : Nat -> Bool} {f : Aa -> Aa} {rho : Nat -> Nat}
theorem BH(h:AQ c ⟨[],[]⟩ c.list=true){j:Nat}(hj:j<c.list.length):AS c (Cl ⟨[],[]⟩ (c.list.take j)) c.list[j]=true:=by
 have e:c.list=c.list.take j++c.list[j]::c.list.drop (j+1):=by rw[←List.drop_eq_getElem_cons hj,List.take_append_drop]
 rw[e,C8]at h;simp only[Bool.and_eq_true]at h;have h2:=h.2;unfold AQ at h2;simp only[Bool.and_eq_true]at h2;exact h2.1
theorem Oe{U K:Nat->Bool}{X S:List Nat}{o o':List Bk}(h:FC U K X S o o'){t:Bool}(ho:o.isEmpty=false):∃b S1 q o1,S=b::S1/\o=q::o1/\((K b=false/\(∀r∈X.drop q.ahead,U r=false)/\q.ahead<=X.length/\FC U K (if q.loop then X else X.take q.ahead) S1 o1 o')\/(K b=true/\∃q' o1',o'=q'::o1'/\q'.loop=q.loop/\(q.loop=false->q.ahead<=X.length/\q'.ahead=((X.take q.ahead).filter U).length)/\FC U K (if q.loop then X else X.take q.ahead) S1 o1 o1')):=by
 cases h with
 |nil=>simp at ho
 |skipL hK ha hu h=>exact⟨_,_,_,_,rfl,rfl,.inl ⟨hK,hu,ha,h⟩⟩
 |skipW hK ha hu h=>exact⟨_,_,_,_,rfl,rfl,.inl ⟨hK,hu,ha,h⟩⟩
 |keepL hK h=>exact⟨_,_,_,_,rfl,rfl,.inr ⟨hK,_,_,rfl,rfl,fun e=>(by cases e),h⟩⟩
 |keepW hK ha e h=>exact⟨_,_,_,_,rfl,rfl,.inr ⟨hK,_,_,rfl,rfl,fun _=>⟨ha,e⟩,h⟩⟩
theorem Fk{U:Nat->Bool}{Y:List Nat}(h:∀r∈Y,U r=false):Y.filter U=[]:=by
 rw[List.filter_eq_nil_iff];intro r hr;rw[h r hr];simp
theorem HG{U:Nat->Bool}{X:List Nat}{a:Nat}(h:∀r∈X.drop a,U r=false):(X.take a).filter U=X.filter U:=by
 conv=>rhs;rw[←List.take_append_drop a X,List.filter_append,Fk h,List.append_nil]
theorem MD(hp:QR c c' K U f rho){j:Nat}(hj:j<c.list.length){x x':Wk}(h:Qq c K U rho j x x')(t:AS c x c.list[j]=true):
 (K j=true->AS c' x' (f c.list[j])=true/\Qq c K U rho (j+1) (As x c.list[j]) (As x' (f c.list[j])))/\(K j=false->Qq c K U rho (j+1) (As x c.list[j]) x'):=by
 obtain⟨t1,t2,t3,t4⟩:=AG t;have hst:At (c.list.take (j+1))=if c.list[j].op=34\/c.list[j].op=36 then j::At (c.list.take j)else if c.list[j].op=35\/c.list[j].op=37 then(At (c.list.take j)).tail else At (c.list.take j):=by
  rw[List.take_succ_eq_append_getElem hj,Fa,show(c.list.take j).length=j by rw[List.length_take];omega]
 have har:=hp.around j hj;have hpa:=hp.pair j hj;have hu:=hp.hU j hj;have hrd:=hp.reads j hj;have hf:=fun hk=>hp.fits j hj hk t2;have hm:=fun hk ho=>hp.main j hj hk ho t2;have hop:=hp.op c.list[j];have hfn:=hp.n c.list[j];have hrr:=hp.rd c.list[j];have hdd:=hp.d c.list[j];have hwas:∀ (y:Wk),(∀r∈y.set,∃k,∃hk:k<c.list.length,Ad c.list[k]=true/\c.list[k].d.toNat=r)->∀r∈(CR y c.list[j] (A4 c.list[j].op)).set,∃k,∃hk:k<c.list.length,Ad c.list[k]=true/\c.list[k].d.toNat=r:=fun y hy r hr=>by
  unfold CR at hr;split at hr
  ·rename_i q;rcases List.mem_append.1 hr with e|e
   ·exact hy r e
   ·simp only[List.mem_singleton]at e;exact⟨j,hj,by unfold Ad;simpa using q.1,e.symm⟩
  ·exact hy r hr
 generalize hi:c.list[j]=i at t1 t2 t3 t4 hst har hpa hu hrd hf hm hop hfn hrr hdd hwas;obtain⟨X,O⟩:=x;obtain⟨X',O'⟩:=x';have hX:=h.set;have hO:=h.opens;have hW:=h.was;simp only at hX hO hW;have hS1:Ad (f i)=Ad i:=by unfold Ad;rw[hop]
 have stand:K j=true->AS c' ⟨X',O'⟩ (f i)=true:=fun hk=>by
  have hS:∀b∈(if i.op=35\/i.op=37 then(At (c.list.take j)).tail else At (c.list.take j)),K b=true:=har hk;have hall:∀b∈At (c.list.take j),K b=true:=by
   by_cases hfin:i.op=35\/i.op=37
   ·rw[if_pos hfin]at hS;intro b hb;cases hs:At (c.list.take j)with
    |nil=>rw[hs]at hb;cases hb
    |cons b0 S0=>
     rw[hs]at hb hS;rcases List.mem_cons.1 hb with e|e
     ·rw[e];have:=hpa hfin b0 (by rw[hs];rfl);rw[this];exact hk
     ·exact hS b e
   ·rw[if_neg hfin]at hS;exact hS
  obtain⟨s1,s2⟩:=hO.shape hall;obtain⟨s3,s4⟩:=s2 X X';unfold AS;rw[hop];simp only[Bool.and_eq_true];refine⟨t1,hf hk,?_,?_⟩
  ·unfold AD at t3 ⊢;have e:O.isEmpty=O'.isEmpty:=by
    cases O with
    |nil=>cases O' with |nil=>rfl|cons _ _=>simp at s1
    |cons _ _=>cases O' with |nil=>simp at s1|cons _ _=>rfl
   rw[hop,←s3];simp only at s1 ⊢;rw[←s1,←e];by_cases ho:i.op<35
   ·rw[hm hk ho,←s4];exact t3
   ·unfold An at t1;simp only[Bool.and_eq_true,decide_eq_true_eq]at t1;rcases(show i.op=35\/i.op=36\/i.op=37 by omega)with q|q|q
    ·rw[if_neg oM,if_pos q]at t3 ⊢;exact t3
    ·rw[if_pos (.inr q)]at t3 ⊢;exact t3
    ·rw[if_neg oM,if_neg oM,if_pos q]at t3 ⊢;exact t3
  ·unfold Et at t4 ⊢;rw[hrr,List.all_eq_true];intro y hy;obtain⟨r,hr,rfl⟩:=List.mem_map.1 hy;rw[List.all_eq_true]at t4;have h4:r.toNat∈X:=by simpa using t4 r hr
   have hur:=hrd hk r hr (hW _ h4);simp only[Int.toNat_natCast,decide_eq_true_eq];rw[hX];exact List.mem_map.2 ⟨r.toNat,List.mem_filter.2 ⟨h4,hur⟩,rfl⟩
 by_cases hs:Ad i=true
 ·--a setting
  obtain⟨o4,o5,o6,o7⟩:=KA hs;have e1:As ⟨X,O⟩ i=CR ⟨X,O⟩ i (A4 i.op):=GL hs;have e2:As ⟨X',O'⟩ (f i)=CR ⟨X',O'⟩ (f i) (A4 i.op):=by rw[GL (by rw[hS1];exact hs),hop]
  have hdr:(A4 i.op).d≠0:=by unfold Ad at hs;simpa using hs
  have hst':At (c.list.take (j+1))=At (c.list.take j):=by rw[hst,if_neg oM,if_neg oM]
  have hu':=hu hs;refine⟨fun hk=>⟨stand hk,?_⟩,fun hk=>?_⟩
  ·rw[e1,e2];have hall:∀b∈At (c.list.take j),K b=true:=by have:=har hk;rw[if_neg oM]at this;exact this
   have hud:U i.d.toNat=true:=by rw[hu',hk]
   have hmem:(f i).d.toNat∈X'↔i.d.toNat∈X:=by
    rw[hX,hdd hs];constructor
    ·intro q;obtain⟨r,hr,e⟩:=List.mem_map.1 q;obtain⟨hr1,hr2⟩:=List.mem_filter.1 hr;rw[←hp.inj r i.d.toNat hr2 hud e];exact hr1
    ·exact fun q=>List.mem_map.2 ⟨_,List.mem_filter.2 ⟨q,hud⟩,rfl⟩
   refine⟨?_,hwas _ hW,?_⟩
   ·unfold CR;by_cases q:i.d.toNat∈X
    ·rw[if_neg (fun w=>w.2 (hmem.2 q)),if_neg (fun w=>w.2 q)];exact hX
    ·rw[if_pos ⟨hdr,fun w=>q (hmem.1 w)⟩,if_pos ⟨hdr,q⟩];simp only;rw[List.filter_append,List.map_append,←hX,hdd hs];simp[hud]
   ·rw[hst'];unfold CR;by_cases q:i.d.toNat∈X
    ·rw[if_neg (fun w=>w.2 q),if_neg (fun w=>w.2 (hmem.2 q))];exact hO
    ·rw[if_pos ⟨hdr,q⟩,if_pos ⟨hdr,fun w=>q (hmem.1 w)⟩];exact hO.growK hall _
  ·rw[e1];have hud:U i.d.toNat=false:=by rw[hu',hk]
   refine⟨?_,hwas _ hW,?_⟩
   ·unfold CR;split
    ·simp only;rw[List.filter_append,Fk (Y:=[i.d.toNat]) (fun r hr=>by simp only[List.mem_singleton]at hr;rw[hr];exact hud),List.append_nil];exact hX
    ·exact hX
   ·rw[hst'];unfold CR;split
    ·exact hO.growN _ (fun r hr=>by simp only[List.mem_singleton]at hr;rw[hr];exact hud)
    ·exact hO
 ·have hns:Ad i=false:=by simpa using hs
  have e1:As ⟨X,O⟩ i=Cm ⟨X,O⟩ i:=by unfold As DM;exact Ml hns
  have e2:As ⟨X',O'⟩ (f i)=Cm ⟨X',O'⟩ (f i):=by unfold As DM;exact Ml (by rw[hS1];exact hns)
  rw[e1,e2];unfold Cm;rw[hop];by_cases hb:i.op=34\/i.op=36
  ·rw[if_pos hb,if_pos hb];rw[if_pos hb]at hst;have hfn':=hfn oM;refine⟨fun hk=>⟨stand hk,?_⟩,fun hk=>?_⟩
   ·refine⟨hX,hW,?_⟩;rw[hst,hfn'];rcases hb with e|e
    ·rw[show(i.op==36)=false by rw[e];rfl];refine .keepW hk (Nat.le_refl _) ?_ ?_
     ·rw[List.take_length,hX,List.length_map]
     ·rw[List.take_length];exact hO
    ·rw[show(i.op==36)=true by rw[e];rfl];exact .keepL hk hO
   ·refine⟨hX,hW,?_⟩;rw[hst];rcases hb with e|e
    ·rw[show(i.op==36)=false by rw[e];rfl];refine .skipW hk (Nat.le_refl _) (fun r hr=>by simp at hr) ?_;rw[List.take_length];exact hO
    ·rw[show(i.op==36)=true by rw[e];rfl];exact .skipL hk (Nat.le_refl _) (fun r hr=>by simp at hr) hO
  ·rw[if_neg hb,if_neg hb];rw[if_neg hb]at hst;by_cases hfin:i.op=35\/i.op=37
   ·rw[if_pos hfin,if_pos hfin];rw[if_pos hfin]at hst;have hne:O.isEmpty=false:=by
     unfold AD at t3;rw[if_neg hb]at t3;rcases hfin with e|e
     ·rw[if_pos e]at t3;simp only[Bool.and_eq_true,Bool.not_eq_true']at t3;exact t3.1
     ·rw[if_neg oM,if_pos e]at t3;unfold AA at t3;cases O with
      |nil=>simp at t3
      |cons _ _=>rfl
    obtain⟨b,S1,q,o1,eS,eO,hc⟩:=Oe hO (t:=true) hne;have hkb:=hpa hfin b (by rw[eS];rfl);rw[eS]at hst;simp only[List.tail_cons]at hst;subst eO;refine⟨fun hk=>⟨stand hk,?_⟩,fun hk=>?_⟩
    ·rcases hc with⟨k1,_⟩|⟨k1,q',o1',e',el,ea,k2⟩
     ·rw[k1]at hkb;rw[hk]at hkb;cases hkb
     ·subst e';unfold AZ;simp only;rw[el];by_cases hl:q.loop=true
      ·rw[hl]at k2 ⊢;simp only[if_true]at k2 ⊢;exact⟨hX,hW,by rw[hst];exact k2⟩
      ·have hl':q.loop=false:=by simpa using hl
       rw[hl']at k2 ⊢;obtain⟨a1,a2⟩:=ea hl';refine⟨?_,fun r hr=>hW r (List.mem_of_mem_take hr),by rw[hst];exact k2⟩;show X'.take q'.ahead=((X.take q.ahead).filter U).map rho;rw[hX,a2]
       conv=>lhs;rw[←List.take_append_drop q.ahead X,List.filter_append,List.map_append]
       rw[List.take_append_of_le_length sM,List.take_of_length_le sM]
    ·rcases hc with⟨k1,ku,ka,k2⟩|⟨k1,_⟩
     ·unfold AZ;simp only;by_cases hl:q.loop=true
      ·rw[hl]at k2 ⊢;simp only[if_true]at k2 ⊢;exact⟨hX,hW,by rw[hst];exact k2⟩
      ·have hl':q.loop=false:=by simpa using hl
       rw[hl']at k2 ⊢;refine⟨?_,fun r hr=>hW r (List.mem_of_mem_take hr),by rw[hst];exact k2⟩;show X'=((X.take q.ahead).filter U).map rho;rw[HG ku];exact hX
     ·rw[k1]at hkb;rw[hk]at hkb;cases hkb
   ·rw[if_neg hfin,if_neg hfin];rw[if_neg hfin]at hst;exact⟨fun hk=>⟨stand hk,hX,hW,by rw[hst];exact hO⟩,fun hk=>⟨hX,hW,by rw[hst];exact hO⟩⟩
theorem ME(hp:QR c c' K U f rho)(h:AQ c ⟨[],[]⟩ c.list=true):∀j,j<=c.list.length->AQ c' ⟨[],[]⟩ (AH K f c.list j)=true/\Qq c K U rho j (Cl ⟨[],[]⟩ (c.list.take j)) (Cl ⟨[],[]⟩ (AH K f c.list j)):=by
 intro j;induction j with
 |zero=>intro _;exact⟨rfl,rfl,fun r hr=>(by cases hr),.nil⟩
 |succ j ih=>
  intro hj;obtain⟨i1,i2⟩:=ih oM;have hjl:j<c.list.length:=oM;have t:=BH h hjl;obtain⟨s1,s2⟩:=MD hp hjl i2 t;have er:Cl ⟨[],[]⟩ (c.list.take (j+1))=As (Cl ⟨[],[]⟩ (c.list.take j)) c.list[j]:=by rw[List.take_succ_eq_append_getElem hjl,DP];rfl
  rw[er];cases hk:K j with
  |true=>
   obtain⟨s3,s4⟩:=s1 hk;rw[Cx hjl hk,C8,DP,i1];refine⟨?_,s4⟩;show(true&&AQ c' _ [f c.list[j]])=true;unfold AQ;rw[s3];rfl
  |false=>
   rw[EE hk];exact⟨i1,s2 hk⟩
end
theorem Kz:∀ (l:List Aa) (s:Wk),∀r∈(Cl s l).set,r∈s.set\/∃j∈l,Ad j=true/\j.d.toNat=r
 |[],s,r,hr=>.inl hr
 |i::l,s,r,hr=>by
  have hr':r∈(Cl (As s i) l).set:=hr;rcases Kz l (As s i) r hr' with h|⟨j,hj,h⟩
  ·have h2:r∈s.set\/(Ad i=true/\i.d.toNat=r):=by
    unfold As DM at h;have h3:r∈(Cm s i).set\/(Ad i=true/\i.d.toNat=r):=by
     unfold CR at h;split at h
     ·rename_i q;rcases List.mem_append.1 h with h|h
      ·exact .inl h
      ·simp at h;exact .inr ⟨by unfold Ad;simpa using q.1,h.symm⟩
     ·exact .inl h
    rcases h3 with h3|h3
    ·left;unfold Cm at h3;split at h3
     ·exact h3
     ·split at h3
      ·unfold AZ at h3;split at h3
       ·split at h3
        ·exact h3
        ·exact List.mem_of_mem_take h3
       ·exact h3
      ·exact h3
    ·exact .inr h3
   rcases h2 with h2|h2
   ·exact .inl h2
   ·exact .inr ⟨i,sM,h2⟩
  ·exact .inr ⟨j,List.mem_cons_of_mem i hj,h⟩
theorem NU{c:Cd}{l:List Aa}(h:AQ c ⟨[],[]⟩ l=true){i:Aa}(hi:i∈l):∃L R,l=L++i::R/\AS c (Cl ⟨[],[]⟩ L) i=true:=by
 obtain⟨L,R,rfl⟩:=List.append_of_mem hi;rw[C8]at h;simp only[Bool.and_eq_true]at h;refine⟨L,R,rfl,?_⟩;have h2:=h.2;unfold AQ at h2;simp only[Bool.and_eq_true]at h2;exact h2.1
def Fv(S:List Nat)(i:Aa):List Nat:=if(A4 i.op).d≠0/\i.d.toNat∉S then S++[i.d.toNat]else S
theorem Jf:∀ {r:List Bk} {n:Nat},PZ n r->∀b∈r,b.ahead<=n
 |[],_,_,b,hb=>absurd hb sM
 |a::r,n,h,b,hb=>by
  rcases List.mem_cons.1 hb with rfl|hb
  ·exact h.1
  ·exact Nat.le_trans (Jf h.2 b hb) h.1
theorem Gr{s:Wk}{i:Aa}(h:(A4 i.op).d=0):CR s i (A4 i.op)=s:=by unfold CR;rw[if_neg (fun e=>e.1 h)]
theorem JL{S:List Nat}{i:Aa}{x:Nat}:x∈Fv S i↔x∈S\/((A4 i.op).d≠0/\x=i.d.toNat):=by
 unfold Fv;by_cases h:(A4 i.op).d≠0/\i.d.toNat∉S
 ·rw[if_pos h,List.mem_append];simp only[List.mem_singleton];exact⟨fun q=>q.imp id fun e=>⟨h.1,e⟩,fun q=>q.imp id fun e=>e.2⟩
 ·rw[if_neg h];constructor
  ·exact .inl
  ·rintro(q|⟨q1,q2⟩)
   ·exact q
   ·rw[q2];exact Decidable.byContradiction fun e=>h ⟨q1,e⟩
end Go.Proofs.Ytnbccaicijcklaa
