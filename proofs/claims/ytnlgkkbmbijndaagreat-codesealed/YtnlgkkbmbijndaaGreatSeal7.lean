import Derived.Test.YtnlgkkbmbijndaaGreatSeal2
import Derived.Test.YtnlgkkbmbijndaaGreatSeal3
import Derived.Test.YtnlgkkbmbijndaaGreatRows
import Derived.WalkKit
import Derived.WalkSpells
import Derived.WalkLawsBesides
import Derived.Laws.FloatArith
import Derived.Laws.Externs
import Derived.Below
import Derived.Handy
import Derived.Test.YtnlgkkbmbijndaaGreatSeal1
namespace Go.Proofs.YtnlgkkbmbijndaaGreat
open Go.RowKit Go.Proofs.Tryz
set_option linter.all false
set_option maxRecDepth 100000
set_option maxHeartbeats 16000000
theorem JB(w:World):Calls prog 48 #[.int .i64 22] w fun e w'=>e=.returned (.tuple #[.string ⟨#[119,119,119,45,45]⟩,.bool true])/\w'=w:=by
 exact Do
theorem JC(w:World):Calls prog 48 #[.int .i64 23] w fun e w'=>e=.returned (.tuple #[.string ⟨#[119,119,119,45,45]⟩,.bool true])/\w'=w:=by
 exact Do
theorem JD(w:World):Calls prog 48 #[.int .i64 24] w fun e w'=>e=.returned (.tuple #[.string ⟨#[119,119,119,45,45]⟩,.bool true])/\w'=w:=by
 exact Do
theorem JE(w:World):Calls prog 48 #[.int .i64 25] w fun e w'=>e=.returned (.tuple #[.string ⟨#[119,119,45,45,45]⟩,.bool true])/\w'=w:=by
 exact Do
theorem JF(w:World):Calls prog 48 #[.int .i64 26] w fun e w'=>e=.returned (.tuple #[.string ⟨#[119,119,119,119,45]⟩,.bool true])/\w'=w:=by
 exact Do
theorem JG(w:World):Calls prog 48 #[.int .i64 27] w fun e w'=>e=.returned (.tuple #[.string ⟨#[119,119,119,45,45]⟩,.bool true])/\w'=w:=by
 exact Do
theorem JH(w:World):Calls prog 48 #[.int .i64 28] w fun e w'=>e=.returned (.tuple #[.string ⟨#[119,119,119,45,45]⟩,.bool true])/\w'=w:=by
 exact Do
theorem JI(w:World):Calls prog 48 #[.int .i64 29] w fun e w'=>e=.returned (.tuple #[.string ⟨#[118,45,45,45,112]⟩,.bool true])/\w'=w:=by
 exact Do
theorem Js(w:World):Calls prog 48 #[.int .i64 13] w fun e w'=>e=.returned (.tuple #[.string ⟨#[100,120,45,45,45]⟩,.bool true])/\w'=w:=by
 exact Do
theorem Jt(w:World):Calls prog 48 #[.int .i64 14] w fun e w'=>e=.returned (.tuple #[.string ⟨#[100,120,45,45,45]⟩,.bool true])/\w'=w:=by
 exact Do
theorem Ju(w:World):Calls prog 48 #[.int .i64 15] w fun e w'=>e=.returned (.tuple #[.string ⟨#[100,120,120,120,45]⟩,.bool true])/\w'=w:=by
 exact Do
theorem Jv(w:World):Calls prog 48 #[.int .i64 16] w fun e w'=>e=.returned (.tuple #[.string ⟨#[110,110,119,45,45]⟩,.bool true])/\w'=w:=by
 exact Do
theorem Jw(w:World):Calls prog 48 #[.int .i64 17] w fun e w'=>e=.returned (.tuple #[.string ⟨#[110,119,45,45,45]⟩,.bool true])/\w'=w:=by
 exact Do
theorem Jx(w:World):Calls prog 48 #[.int .i64 18] w fun e w'=>e=.returned (.tuple #[.string ⟨#[119,110,45,45,45]⟩,.bool true])/\w'=w:=by
 exact Do
theorem Jy(w:World):Calls prog 48 #[.int .i64 19] w fun e w'=>e=.returned (.tuple #[.string ⟨#[110,118,45,45,45]⟩,.bool true])/\w'=w:=by
 exact Do
theorem Jz(w:World):Calls prog 48 #[.int .i64 20] w fun e w'=>e=.returned (.tuple #[.string ⟨#[110,118,45,45,45]⟩,.bool true])/\w'=w:=by
 exact Do
theorem JA(w:World):Calls prog 48 #[.int .i64 21] w fun e w'=>e=.returned (.tuple #[.string ⟨#[119,119,45,45,45]⟩,.bool true])/\w'=w:=by
 exact Do
theorem MO(w:World):Calls prog 48 #[.int .i64 1] w fun e w'=>e=.returned (.tuple #[.string ⟨#[110,45,45,45,45]⟩,.bool true])/\w'=w:=by
 exact Do
theorem MP(w:World):Calls prog 48 #[.int .i64 2] w fun e w'=>e=.returned (.tuple #[.string ⟨#[119,45,45,45,105]⟩,.bool true])/\w'=w:=by
 exact Do
theorem MQ(w:World):Calls prog 48 #[.int .i64 3] w fun e w'=>e=.returned (.tuple #[.string ⟨#[97,99,45,45,45]⟩,.bool true])/\w'=w:=by
 exact Do
theorem MR(w:World):Calls prog 48 #[.int .i64 4] w fun e w'=>e=.returned (.tuple #[.string ⟨#[100,120,120,45,45]⟩,.bool true])/\w'=w:=by
 exact Do
theorem MS(w:World):Calls prog 48 #[.int .i64 5] w fun e w'=>e=.returned (.tuple #[.string ⟨#[100,120,120,45,45]⟩,.bool true])/\w'=w:=by
 exact Do
theorem MT(w:World):Calls prog 48 #[.int .i64 6] w fun e w'=>e=.returned (.tuple #[.string ⟨#[100,120,120,45,45]⟩,.bool true])/\w'=w:=by
 exact Do
theorem MU(w:World):Calls prog 48 #[.int .i64 7] w fun e w'=>e=.returned (.tuple #[.string ⟨#[100,120,120,45,45]⟩,.bool true])/\w'=w:=by
 exact Do
theorem MV(w:World):Calls prog 48 #[.int .i64 8] w fun e w'=>e=.returned (.tuple #[.string ⟨#[100,120,120,45,45]⟩,.bool true])/\w'=w:=by
 exact Do
theorem MX(w:World):Calls prog 48 #[.int .i64 9] w fun e w'=>e=.returned (.tuple #[.string ⟨#[100,120,120,45,45]⟩,.bool true])/\w'=w:=by
 exact Do
theorem Jp(w:World):Calls prog 48 #[.int .i64 10] w fun e w'=>e=.returned (.tuple #[.string ⟨#[100,120,120,45,45]⟩,.bool true])/\w'=w:=by
 exact Do
theorem Jq(w:World):Calls prog 48 #[.int .i64 11] w fun e w'=>e=.returned (.tuple #[.string ⟨#[100,120,45,45,45]⟩,.bool true])/\w'=w:=by
 exact Do
theorem Jr(w:World):Calls prog 48 #[.int .i64 12] w fun e w'=>e=.returned (.tuple #[.string ⟨#[100,120,45,45,45]⟩,.bool true])/\w'=w:=by
 exact Do
def Az(n:Nat):List Nat:=if n<128 then [n]else(n%128+128)::Az (n/128)
 termination_by n
def CD:List Nat->Nat->Nat->Except Int (Nat×Nat)
 |[],k,n=>.error 242
 |b::l,k,n=>if k=9\/(b=0/\0<k)then .error 243 else if b<128 then .ok (n+b*128^k,k+1)else CD l (k+1) (n+(b%128)*128^k)
theorem Cg{n:Nat}(h:n<128):Az n=[n]:=by rw[Az,if_pos h]
theorem CS{n:Nat}(h:¬n<128):Az n=(n%128+128)::Az (n/128):=by rw[Az,if_neg h]
theorem Fb(n:Nat):∀b∈Az n,b<256:=by
 induction n using Nat.strongRecOn with
 |ind n ih=>
  by_cases h:n<128
  .rw[Cg h];intro b hb;simp only[List.mem_singleton]at hb;omega
  .rw[CS h];intro b hb;rcases List.mem_cons.1 hb with e|e
   .omega
   .exact ih (n/128) oM b e
theorem Pu(n:Nat):∀ (k a:Nat) (rest:List Nat),k<=9->(0<k->0<n)->n*128^k<128^9->CD (Az n++rest) k a=.ok (a+n*128^k,k+(Az n).length):=by
 induction n using Nat.strongRecOn with
 |ind n ih=>
  intro k a rest hk h0 hn;have hk9:k≠9:=fun e=>by
   subst e;have:=h0 oM;have h1:1*128^9<=n*128^9:=Nat.mul_le_mul_right _ this;omega
  by_cases h:n<128
  .rw[Cg h];show(if k=9\/(n=0/\0<k)then _ else if n<128 then _ else _)=_;rw[if_neg (by rintro(e|⟨e,e2⟩);exact hk9 e;have:=h0 e2;omega),if_pos h];rfl
  .rw[CS h];show(if k=9\/(n%128+128=0/\0<k)then _ else if n%128+128<128 then _ else _)=_;have e1:n/128*128^(k+1)+n%128*128^k=n*128^k:=by
    rw[Nat.pow_succ,show n/128*(128^k*128)=(128*(n/128))*128^k by ac_rfl,<-Nat.add_mul,Nat.div_add_mod]
   show(if k=9\/(n%128+128=0/\0<k)then _ else if n%128+128<128 then _ else CD (Az (n/128)++rest) (k+1) (a+(n%128+128)%128*128^k))=_;rw[if_neg (by rintro(e|⟨e,e2⟩);exact hk9 e;omega),if_neg oM,ih (n/128) oM (k+1) _ rest oM (fun _=>by omega) oM,show(n%128+128)%128=n%128 by omega];congr 2
   .omega
   .rw[List.length_cons];omega
theorem LU:∀ (l:List Nat) (k a m j:Nat),k<=9->(∀b∈l,b<256)->CD l k a=.ok (m,j)->∃n rest,l=Az n++rest/\m=a+n*128^k/\j=k+(Az n).length/\(0<k->0<n)/\k<9/\n*128^k<128^9
 |[],k,a,m,j,_,_,h=>by cases h
 |b::l,k,a,m,j,hk9,hb,h=>by
  unfold CD at h;by_cases h1:k=9\/(b=0/\0<k)
  .rw[if_pos h1]at h;cases h
  .rw[if_neg h1]at h;have hb0:=hb b sM;have hk:k<9:=by
    rcases Nat.lt_or_ge k 9 with q|q
    .exact q
    .exact absurd (.inl oM) h1
   by_cases h2:b<128
   .rw[if_pos h2]at h;simp only[Except.ok.injEq,Prod.mk.injEq]at h;refine⟨b,l,by rw[Cg h2];rfl,h.1.symm,by rw[Cg h2];exact h.2.symm,fun q=>?_,hk,?_⟩
    .rcases Nat.eq_zero_or_pos b with e|e
     .exact absurd (.inr ⟨e,q⟩) h1
     .exact e
    .have h3:128^(k+1)<=128^9:=Nat.pow_le_pow_right dE oM;have h4:b*128^k<128*128^k:=Nat.mul_lt_mul_of_pos_right h2 (Nat.pow_pos dE);rw[Nat.pow_succ]at h3;omega
   .rw[if_neg h2]at h;obtain⟨n,rest,e1,e2,e3,e4,e5,e6⟩:=LU l (k+1) _ m j oM (fun x hx=>hb x (List.mem_cons_of_mem _ hx)) h;have hn0:=e4 oM;have hN:Az (b%128+128*n)=b::Az n:=by
     rw[CS oM,show(b%128+128*n)%128+128=b by omega,show(b%128+128*n)/128=n by omega]
    have hv:(b%128+128*n)*128^k=b%128*128^k+n*128^(k+1):=by
     rw[Nat.add_mul,Nat.pow_succ,show 128*n*128^k=n*(128^k*128) by ac_rfl]
    refine⟨b%128+128*n,rest,by rw[hN,e1];rfl,by rw[hv,e2];omega,by rw[hN,e3,List.length_cons];omega,fun _=>by omega,hk,?_⟩;rw[hv];have h3:128^(k+1)<=128^9:=Nat.pow_le_pow_right dE oM;have h4:b%128*128^k<128^(k+1):=by
     rw[Nat.pow_succ,Nat.mul_comm (128^k)];exact Nat.mul_lt_mul_of_pos_right oM (Nat.pow_pos dE)
    obtain⟨q,hq⟩:∃q,128^9=q*128^(k+1):=⟨128^(9-(k+1)),by rw[<-Nat.pow_add];congr 1;omega⟩
    have h5:n<q:=by
     rw[hq]at e6;exact Nat.lt_of_mul_lt_mul_right e6
    have h6:(n+1)*128^(k+1)<=q*128^(k+1):=Nat.mul_le_mul_right _ h5;rw[Nat.succ_mul]at h6;omega
abbrev Pz(α:Type):=List Nat->Nat->Except (Int×Nat) (α×List Nat×Nat)
def Ac{α β:Type}(q:Pz α)(f:α->Pz β):Pz β:=fun l p=>match q l p with
 | .error e=>.error e
 | .ok (x,l',p')=>f x l' p'
def Ax{α:Type}(x:α):Pz α:=fun l p=>.ok (x,l,p)
theorem Fx{α β:Type}{q:Pz α}{f:α->Pz β}{l:List Nat}{p:Nat}{y:β×List Nat×Nat}(h:Ac q f l p=.ok y):∃x l' p',q l p=.ok (x,l',p')/\f x l' p'=.ok y:=by
 unfold Ac at h;split at h
 .cases h
 .rename_i x l' p' e;exact⟨x,l',p',e,h⟩
structure Rt{α:Type}(e:α->List Nat)(q:Pz α)(ok:α->Prop):Prop where
 fw:∀x,ok x->∀ (rest:List Nat) (p:Nat),q (e x++rest) p=.ok (x,rest,p+(e x).length)
 bw:∀ (l:List Nat) (p:Nat) (x:α) (l':List Nat) (p':Nat),(∀b∈l,b<256)->q l p=.ok (x,l',p')->l=e x++l'/\p'=p+(e x).length/\ok x
def Bf:Pz Nat:=fun l p=>match CD l 0 0 with
 | .error e=>.error (e,p)
 | .ok (n,k)=>.ok (n,l.drop k,p+k)
theorem EM:Rt Az Bf (fun n=>n<2^63):=by
 refine⟨fun n hn rest p=>?_,fun l p x l' p' hb h=>?_⟩
 .have h9:=Pu n 0 0 rest oM (fun h=>absurd h oM) (by rw[Nat.pow_zero,Nat.mul_one];exact Nat.lt_of_lt_of_eq hn dE);unfold Bf;rw[h9];simp
 .unfold Bf at h;split at h
  .cases h
  .rename_i n k e;simp only[Except.ok.injEq,Prod.mk.injEq]at h;obtain⟨m,rest,e1,e2,e3,-,-,e6⟩:=LU l 0 0 n k oM hb e;have em:m=n:=by rw[e2];simp
   subst em;obtain⟨rfl,rfl,rfl⟩:=h;rw[Nat.zero_add]at e3;refine⟨?_,by rw[e3],Nat.lt_of_lt_of_eq (by simpa using e6) dE⟩;rw[e1,e3];simp
def B0:Nat->Nat->List Nat
 |0,_=>[]
 |k+1,n=>n%256::B0 k (n/256)
theorem AZ:∀ (k n:Nat),(B0 k n).length=k
 |0,_=>rfl
 |k+1,n=>by show(B0 k (n/256)).length+1=_;rw[AZ]
theorem DL:∀ (k n:Nat),∀b∈B0 k n,b<256
 |0,n,b,h=>by cases h
 |k+1,n,b,h=>by
  rcases List.mem_cons.1 h with e|e
  .omega
  .exact DL k _ b e
theorem EH:∀ (k n:Nat),n<256^k->Bi (B0 k n)=n
 |0,n,h=>by
  have:n=0:=by simpa using h
  subst this;rfl
 |k+1,n,h=>by
  show n%256+256*Bi (B0 k (n/256))=n;rw[EH k (n/256) (by rw[Nat.pow_succ]at h;omega)];omega
theorem EG:∀ (l:List Nat),(∀b∈l,b<256)->B0 l.length (Bi l)=l
 |[],_=>rfl
 |b::l,h=>by
  have h1:=h b sM;show(b+256*Bi l)%256::B0 l.length ((b+256*Bi l)/256)=b::l;rw[show(b+256*Bi l)%256=b by omega,show(b+256*Bi l)/256=Bi l by omega,EG l (fun x hx=>h x (List.mem_cons_of_mem _ hx))]
def Bg(n:Nat):Pz (List Nat):=fun l p=>if l.length<n then .error (242,p)else .ok (l.take n,l.drop n,p+n)
def C4(k:Nat):Pz Nat:=Ac (Bg k) fun l=>Ax (Bi l)
theorem FI(k:Nat):Rt (B0 k) (C4 k) (fun n=>n<256^k):=by
 refine⟨fun n hn rest p=>?_,fun l p x l' p' hb h=>?_⟩
 .unfold C4 Ac Bg Ax;rw[if_neg (by rw[List.length_append,AZ];omega)];have e1:(B0 k n++rest).take k=B0 k n:=by rw[List.take_append_of_le_length PZ,List.take_of_length_le PZ]
  have e2:(B0 k n++rest).drop k=rest:=by rw[List.drop_append_of_le_length PZ,List.drop_of_length_le PZ];rfl
  simp only[e1,e2,AZ,EH k n hn]
 .obtain⟨y,m,q,h1,h2⟩:=Fx h;unfold Bg at h1;split at h1
  .cases h1
  .rename_i hl;simp only[Except.ok.injEq,Prod.mk.injEq]at h1;obtain⟨rfl,rfl,rfl⟩:=h1;unfold Ax at h2;simp only[Except.ok.injEq,Prod.mk.injEq]at h2;obtain⟨rfl,rfl,rfl⟩:=h2;have ht:(l.take k).length=k:=by rw[List.length_take];omega
   have hb':∀b∈l.take k,b<256:=fun b hx=>hb b (List.mem_of_mem_take hx);have e1:=EG (l.take k) hb';rw[ht]at e1;have e2:=Ej (l.take k) hb';rw[ht]at e2;exact⟨by rw[e1,List.take_append_drop],by rw[AZ],e2⟩
section
variable {α β : Type} {e : α -> List Nat} {q : Pz α} {ok : α -> Prop} {f : α -> Pz β} {x : α} {l l' : List Nat} {p p' : Nat}
theorem Rt.go(h:Rt e q ok)(hx:ok x)(rest:List Nat)(p:Nat):Ac q f (e x++rest) p=f x rest (p+(e x).length):=by
 unfold Ac;rw[h.fw x hx]
theorem Rt.open(h:Rt e q ok)(hb:∀b∈l,b<256){y:β×List Nat×Nat}(hy:Ac q f l p=.ok y):∃x l' p',l=e x++l'/\p'=p+(e x).length/\ok x/\(∀b∈l',b<256)/\f x l' p'=.ok y:=by
 obtain⟨x,l',p',h1,h2⟩:=Fx hy;obtain⟨e1,e2,e3⟩:=h.bw l p x l' p' hb h1;exact⟨x,l',p',e1,e2,e3,fun b hx=>hb b (by rw[e1];exact List.mem_append.2 (.inr hx)),h2⟩
end
def AO(lo hi:Nat):Pz Nat:=fun l p=>match l with
 |[]=>.error (242,p)
 |b::l=>if b<lo\/hi<b then .error (243,p)else .ok (b,l,p+1)
theorem DR(lo hi:Nat):Rt (fun b=>[b]) (AO lo hi) (fun b=>lo<=b/\b<=hi):=by
 refine⟨fun b hb rest p=>?_,fun l p x l' p' _ h=>?_⟩
 .show(if b<lo\/hi<b then _ else _)=_;rw[if_neg oM];rfl
 .cases l with
  |nil=>cases h
  |cons b l=>
   have h':=h;unfold AO at h';simp only at h';split at h'
   .cases h'
   .simp only[Except.ok.injEq,Prod.mk.injEq]at h';obtain⟨rfl,rfl,rfl⟩:=h';exact⟨rfl,rfl,oM⟩
def B4(most:Nat):Pz Nat:=fun l p=>match Bf l p with
 | .error e=>.error e
 | .ok (n,l',p')=>if most<n then .error (2,p)else .ok (n,l',p')
theorem Ev{most:Nat}(hm:most<2^63):Rt Az (B4 most) (fun n=>n<=most):=by
 refine⟨fun n hn rest p=>?_,fun l p x l' p' hb h=>?_⟩
 .unfold B4;rw[EM.fw n oM];simp only;rw[if_neg oM]
 .unfold B4 at h;split at h
  .cases h
  .rename_i n m k e;split at h
   .cases h
   .simp only[Except.ok.injEq,Prod.mk.injEq]at h;obtain⟨rfl,rfl,rfl⟩:=h;obtain⟨e1,e2,e3⟩:=EM.bw l p _ _ _ hb e;exact⟨e1,e2,oM⟩
def GC{α:Type}(q:Pz α):Nat->Pz (List α)
 |0=>Ax []
 |n+1=>Ac q fun x=>Ac (GC q n) fun xs=>Ax (x::xs)
theorem IP{α:Type}{e:α->List Nat}{q:Pz α}{ok:α->Prop}(h:Rt e q ok):∀n,Rt (fun l:List α=>l.flatMap e) (GC q n) (fun l=>l.length=n/\∀x∈l,ok x)
 |0=>by
  refine⟨fun l hl rest p=>?_,fun l p x l' p' _ hh=>?_⟩
  .have:l=[]:=List.eq_nil_of_length_eq_zero hl.1;subst this;rfl
  .have h':Except.ok (([]:List α),l,p)=Except.ok (x,l',p'):=hh;simp only[Except.ok.injEq,Prod.mk.injEq]at h';obtain⟨rfl,rfl,rfl⟩:=h';exact⟨rfl,rfl,rfl,fun x hx=>(by cases hx)⟩
 |n+1=>by
  have ih:=IP h n;refine⟨fun l hl rest p=>?_,fun l p x l' p' hb hh=>?_⟩
  .cases l with
   |nil=>exact absurd hl.1 sM
   |cons a l=>
    have ha:=hl.2 a sM;have hl':l.length=n/\∀x∈l,ok x:=⟨by simpa using hl.1,fun x hx=>hl.2 x (List.mem_cons_of_mem _ hx)⟩
    show Ac q (fun x=>Ac (GC q n) fun xs=>Ax (x::xs)) ((e a++l.flatMap e)++rest) p=_;rw[List.append_assoc,h.go ha,ih.go hl'];show Except.ok (a::l,rest,p+(e a).length+(l.flatMap e).length)=Except.ok (a::l,rest,p+(e a++l.flatMap e).length);rw[List.length_append,Nat.add_assoc]
  .have hh':Ac q (fun x=>Ac (GC q n) fun xs=>Ax (x::xs)) l p=.ok (x,l',p'):=hh;obtain⟨a,m,k,e1,e2,e3,e4,e5⟩:=h.open hb hh';obtain⟨az,m2,k2,f1,f2,f3,f4,f5⟩:=ih.open e4 e5;have f5':Except.ok (a::az,m2,k2)=Except.ok (x,l',p'):=f5;simp only[Except.ok.injEq,Prod.mk.injEq]at f5';obtain⟨rfl,rfl,rfl⟩:=f5';refine⟨?_,?_,by simp[f3.1],fun y hy=>?_⟩
   .rw[e1,f1,List.flatMap_cons,List.append_assoc]
   .rw[f2,e2,List.flatMap_cons,List.length_append,Nat.add_assoc]
   .rcases List.mem_cons.1 hy with r|r
    .rw[r];exact e3
    .exact f3.2 y r
def B7{α:Type}(e:α->List Nat)(l:List α):List Nat:=Az l.length++l.flatMap e
def Bq{α:Type}(most:Nat)(q:Pz α):Pz (List α):=Ac (B4 most) fun n=>GC q n
theorem DG{α:Type}{e:α->List Nat}{q:Pz α}{ok:α->Prop}(h:Rt e q ok){most:Nat}(hm:most<2^63):Rt (B7 e) (Bq most q) (fun l=>l.length<=most/\∀x∈l,ok x):=by
 refine⟨fun l hl rest p=>?_,fun l p x l' p' hb hh=>?_⟩
 .unfold B7 Bq;rw[List.append_assoc,(Ev hm).go hl.1,(IP h l.length).fw l ⟨rfl,hl.2⟩,List.length_append,Nat.add_assoc]
 .obtain⟨n,m,k,e1,e2,e3,e4,e5⟩:=(Ev hm).open hb hh;obtain⟨f1,f2,f3⟩:=(IP h n).bw m k x l' p' e4 e5;have hn:=f3.1;subst hn;refine⟨?_,?_,e3,f3.2⟩
  .unfold B7;rw[e1,f1,List.append_assoc]
  .unfold B7;rw[f2,e2,List.length_append,Nat.add_assoc]
def CI(b:Bool)(v:Int):List Nat:=if b=true then Az v.toNat else []
def BE(b:Bool):Pz Int:=if b=true then Ac Bf fun n=>Ax (n:Int)else Ax 0
theorem Cj(b:Bool):Rt (CI b) (BE b) (fun v=>0<=v/\v<2^63/\(b=false->v=0)):=by
 cases b with
 |true=>
  refine⟨fun v hv rest p=>?_,fun l p x l' p' hb hh=>?_⟩
  .show Ac Bf (fun n=>Ax (n:Int)) (Az v.toNat++rest) p=_;rw[EM.go (by have:=hv.2.1;omega)];show Except.ok ((v.toNat:Int),rest,_)=_;rw[Int.toNat_of_nonneg hv.1];rfl
  .obtain⟨n,m,k,e1,e2,e3,e4,e5⟩:=EM.open hb hh;have e5':Except.ok ((n:Int),m,k)=Except.ok (x,l',p'):=e5;simp only[Except.ok.injEq,Prod.mk.injEq]at e5';obtain⟨rfl,rfl,rfl⟩:=e5';exact⟨by show l=Az (n:Int).toNat++m;rw[Int.toNat_natCast];exact e1,by show k=p+(Az (n:Int).toNat).length;rw[Int.toNat_natCast];exact e2,oM,oM,fun h=>(by cases h)⟩
 |false=>
  refine⟨fun v hv rest p=>?_,fun l p x l' p' hb hh=>?_⟩
  .have:=hv.2.2 rfl;subst this;rfl
  .have e5':Except.ok ((0:Int),l,p)=Except.ok (x,l',p'):=hh;simp only[Except.ok.injEq,Prod.mk.injEq]at e5';obtain⟨rfl,rfl,rfl⟩:=e5';exact⟨rfl,rfl,oM,oM,fun _=>rfl⟩
theorem IQ{α β:Type}{e:α->List Nat}{q:Pz α}{ok:α->Prop}(h:Rt e q ok){e':α->β->List Nat}{q':α->Pz β}{ok':α->β->Prop}(h':∀x,ok x->Rt (e' x) (q' x) (ok' x)):
 Rt (fun z:α×β=>e z.1++e' z.1 z.2) (Ac q fun x=>Ac (q' x) fun y=>Ax (x,y)) (fun z=>ok z.1/\ok' z.1 z.2):=by
 refine⟨fun z hz rest p=>?_,fun l p x l' p' hb hh=>?_⟩
 .obtain⟨a,b⟩:=z;show Ac q _ ((e a++e' a b)++rest) p=_;rw[List.append_assoc,h.go hz.1,(h' a hz.1).go hz.2];show Except.ok ((a,b),rest,p+(e a).length+(e' a b).length)=Except.ok ((a,b),rest,p+(e a++e' a b).length);rw[List.length_append,Nat.add_assoc]
 .obtain⟨a,m,k,e1,e2,e3,e4,e5⟩:=h.open hb hh;obtain⟨b,m2,k2,f1,f2,f3,f4,f5⟩:=(h' a e3).open e4 e5;have f5':Except.ok ((a,b),m2,k2)=Except.ok (x,l',p'):=f5;simp only[Except.ok.injEq,Prod.mk.injEq]at f5';obtain⟨rfl,rfl,rfl⟩:=f5';exact⟨by rw[e1,f1,List.append_assoc],by rw[f2,e2,List.length_append,Nat.add_assoc],e3,f3⟩
theorem N4{α β:Type}{e:α->List Nat}{q:Pz α}{ok:α->Prop}(h:Rt e q ok){g:α->β}{i:β->α}(hg:∀x,ok x->i (g x)=x){ok':β->Prop}(hi:∀y,ok' y->ok (i y)/\g (i y)=y)(ho:∀x,ok x->ok' (g x)):
 Rt (fun y=>e (i y)) (Ac q fun x=>Ax (g x)) ok':=by
 refine⟨fun y hy rest p=>?_,fun l p x l' p' hb hh=>?_⟩
 .obtain⟨h1,h2⟩:=hi y hy;rw[h.go h1];show Except.ok (g (i y),rest,_)=_;rw[h2]
 .obtain⟨a,m,k,e1,e2,e3,e4,e5⟩:=h.open hb hh;have e5':Except.ok (g a,m,k)=Except.ok (x,l',p'):=e5;simp only[Except.ok.injEq,Prod.mk.injEq]at e5';obtain⟨rfl,rfl,rfl⟩:=e5';exact⟨by rw[hg a e3];exact e1,by rw[hg a e3];exact e2,ho a e3⟩
def Ab(b:ByteArray):List Nat:=b.data.toList.map UInt8.toNat
def F5(l:List Nat):ByteArray:=⟨(l.map UInt8.ofNat).toArray⟩
theorem Ah(b:ByteArray):(Ab b).length=b.size:=by
 show(b.data.toList.map UInt8.toNat).length=b.data.size;rw[List.length_map,Array.length_toList]
theorem BP(b:ByteArray):∀x∈Ab b,x<256:=fun x hx=>by
 unfold Ab at hx;obtain⟨u,-,rfl⟩:=List.mem_map.1 hx;exact u.toNat_lt
theorem DB(b:ByteArray):F5 (Ab b)=b:=by
 unfold F5 Ab;rw[List.map_map];have:(UInt8.ofNat ∘ UInt8.toNat)=id:=funext fun u=>by simp
 rw[this,List.map_id]
theorem CM{l:List Nat}(h:∀x∈l,x<256):Ab (F5 l)=l:=by
 unfold F5 Ab;simp only[List.map_map];have:∀x∈l,(UInt8.toNat ∘ UInt8.ofNat) x=id x:=fun x hx=>by
  show(UInt8.ofNat x).toNat=x;rw[UInt8.toNat_ofNat'];exact Nat.mod_eq_of_lt (h x hx)
 rw[List.map_congr_left this,List.map_id]
theorem Cv(l:List Nat):(F5 l).size=l.length:=by unfold F5;simp[ByteArray.size]
theorem JR(n:Nat):Rt (fun l=>l) (Bg n) (fun l=>l.length=n):=by
 refine⟨fun l hl rest p=>?_,fun l p x l' p' hb h=>?_⟩
 .unfold Bg;rw[if_neg (by rw[List.length_append];omega),List.take_append_of_le_length oM,List.take_of_length_le oM,List.drop_append_of_le_length oM,List.drop_of_length_le oM,hl];rfl
 .unfold Bg at h;split at h
  .cases h
  .simp only[Except.ok.injEq,Prod.mk.injEq]at h;obtain⟨rfl,rfl,rfl⟩:=h;have:(l.take n).length=n:=by rw[List.length_take];omega
   exact⟨(List.take_append_drop n l).symm,by rw[this],this⟩
def Fl(b:ByteArray):List Nat:=Az b.size++Ab b
def Hn:Pz ByteArray:=Ac (B4 64) fun n=>Ac (Bg n) fun l=>Ax (F5 l)
theorem PO:Rt Fl Hn (fun b=>b.size<=64):=by
 refine⟨fun b hb rest p=>?_,fun l p x l' p' hb hh=>?_⟩
 .unfold Fl Hn;rw[List.append_assoc,(Ev dE).go hb,(JR b.size).go (x:=Ab b) (Ah b)];show Except.ok (F5 (Ab b),rest,_)=_;rw[DB,List.length_append,Nat.add_assoc]
 .obtain⟨n,m,k,e1,e2,e3,e4,e5⟩:=(Ev dE).open hb hh;obtain⟨y,m2,k2,f1,f2,f3,f4,f5⟩:=(JR n).open e4 e5;have f5':Except.ok (F5 y,m2,k2)=Except.ok (x,l',p'):=f5;simp only[Except.ok.injEq,Prod.mk.injEq]at f5';obtain⟨rfl,rfl,rfl⟩:=f5';have hy:∀b∈y,b<256:=fun b h=>e4 b (by rw[f1];exact List.mem_append.2 (.inl h));have f3':y.length=n:=f3;refine⟨?_,?_,by rw[Cv];omega⟩
  .unfold Fl;rw[Cv,CM hy,f3',e1,f1,List.append_assoc]
  .unfold Fl;rw[Cv,CM hy,f3',f2,e2,List.length_append,Nat.add_assoc]
def BL(p:Bd):List Nat:=[p.kind.toNat]++(Fl p.name++CI true p.len)
def CY:Pz Bd:=Ac (Ac (AO 1 2) fun k=>Ac (Ac Hn fun n=>Ac (BE true) fun v=>Ax (n,v)) fun z=>Ax (k,z)) fun(z:Nat×ByteArray×Int)=>Ax (⟨z.2.1,(z.1:Int),z.2.2⟩:Bd)
def El(p:Bd):Prop:=1<=p.kind/\p.kind<=2/\p.name.size<=64/\0<=p.len/\p.len<2^63
theorem N5:Rt BL CY El:=by
 have h1:Rt (fun z:ByteArray×Int=>Fl z.1++CI true z.2) (Ac Hn fun n=>Ac (BE true) fun v=>Ax (n,v)) (fun z=>z.1.size<=64/\(0<=z.2/\z.2<2^63/\(true=false->z.2=0))):=
  IQ PO (e':=fun _ v=>CI true v) (q':=fun _=>BE true) (ok':=fun _ v=>0<=v/\v<2^63/\(true=false->v=0)) (fun n hn=>Cj true)
 have h2:Rt (fun z:Nat×ByteArray×Int=>[z.1]++(Fl z.2.1++CI true z.2.2)) (Ac (AO 1 2) fun k=>Ac (Ac Hn fun n=>Ac (BE true) fun v=>Ax (n,v)) fun z=>Ax (k,z)) (fun z=>(1<=z.1/\z.1<=2)/\(z.2.1.size<=64/\(0<=z.2.2/\z.2.2<2^63/\(true=false->z.2.2=0)))):=
  IQ (DR 1 2) (e':=fun _ z=>Fl z.1++CI true z.2) (q':=fun _=>Ac Hn fun n=>Ac (BE true) fun v=>Ax (n,v)) (ok':=fun _ z=>z.1.size<=64/\(0<=z.2/\z.2<2^63/\(true=false->z.2=0))) (fun k hk=>h1)
 refine N4 h2 (g:=fun(z:Nat×ByteArray×Int)=>(⟨z.2.1,(z.1:Int),z.2.2⟩:Bd)) (i:=fun(p:Bd)=>(p.kind.toNat,p.name,p.len)) (ok':=El) (fun z hz=>by simp) (fun p hp=>?_) (fun z hz=>?_)
 .obtain⟨n,k,l⟩:=p;obtain⟨a1,a2,a3,a4,a5⟩:=hp;have b1:1<=k:=a1;have b2:k<=2:=a2;refine⟨⟨⟨by show 1<=k.toNat;omega,by show k.toNat<=2;omega⟩,a3,a4,a5,fun h=>(by cases h)⟩,?_⟩;show(⟨n,(k.toNat:Int),l⟩:Bd)=⟨n,k,l⟩;rw[Int.toNat_of_nonneg oM]
 .obtain⟨⟨a1,a2⟩,a3,a4,a5,-⟩:=hz;exact⟨by show 1<=(z.1:Int);omega,by show(z.1:Int)<=2;omega,a3,a4,a5⟩
def Dw(t:Ty):List Nat:=[t.kind.toNat]++CI (decide (t.kind.toNat=3)) t.par
def Eg:Pz Ty:=Ac (Ac (AO 1 3) fun k=>Ac (BE (decide (k=3))) fun v=>Ax (k,v)) fun(z:Nat×Int)=>Ax (⟨(z.1:Int),z.2⟩:Ty)
def G0(t:Ty):Prop:=1<=t.kind/\t.kind<=3/\0<=t.par/\t.par<2^63/\(t.kind≠3->t.par=0)
theorem JS:Rt Dw Eg G0:=by
 have h1:Rt (fun z:Nat×Int=>[z.1]++CI (decide (z.1=3)) z.2) (Ac (AO 1 3) fun k=>Ac (BE (decide (k=3))) fun v=>Ax (k,v)) (fun z=>(1<=z.1/\z.1<=3)/\(0<=z.2/\z.2<2^63/\(decide (z.1=3)=false->z.2=0))):=
  IQ (DR 1 3) (e':=fun k v=>CI (decide (k=3)) v) (q':=fun k=>BE (decide (k=3))) (ok':=fun k v=>0<=v/\v<2^63/\(decide (k=3)=false->v=0)) (fun k hk=>Cj (decide (k=3)))
 refine N4 h1 (g:=fun(z:Nat×Int)=>(⟨(z.1:Int),z.2⟩:Ty)) (i:=fun(t:Ty)=>(t.kind.toNat,t.par)) (ok':=G0) (fun z hz=>by simp) (fun t ht=>?_) (fun z hz=>?_)
 .obtain⟨k,q⟩:=t;obtain⟨a1,a2,a3,a4,a5⟩:=ht;have b1:1<=k:=a1;have b2:k<=3:=a2;refine⟨⟨⟨by show 1<=k.toNat;omega,by show k.toNat<=3;omega⟩,a3,a4,fun h=>a5 ?_⟩,?_⟩
  .have h':¬k.toNat=3:=by simpa using h
   show k≠3;omega
  .show(⟨(k.toNat:Int),q⟩:Ty)=⟨k,q⟩;rw[Int.toNat_of_nonneg oM]
 .obtain⟨⟨a1,a2⟩,a4,a5,a6⟩:=hz;refine⟨by show 1<=(z.1:Int);omega,by show(z.1:Int)<=3;omega,a4,a5,fun h=>a6 ?_⟩;have h':¬ (z.1:Int)=3:=h;simp only[decide_eq_false_iff_not];omega
def Dr(s:Sl):List Nat:=[if s.keep=true then 1 else 0]++(Dw s.ty++(if s.ty.kind=2 then Az s.int_.toNat else B0 4 s.bits.toNat))
def Ff:Pz Sl:=Ac (AO 0 1) fun k=>Ac Eg fun t=>if t.kind=2 then Ac Bf fun n=>Ax (⟨t,k==1,0,(n:Int)⟩:Sl)else Ac (C4 4) fun n=>Ax (⟨t,k==1,(n:Int),0⟩:Sl)
def Hl(s:Sl):Prop:=G0 s.ty/\0<=s.int_/\s.int_<2^63/\0<=s.bits/\s.bits<2^32/\(s.ty.kind=2->s.bits=0)/\(s.ty.kind≠2->s.int_=0)
theorem OS:Rt Dr Ff Hl:=by
 refine⟨fun s hs rest p=>?_,fun l p x l' p' hb hh=>?_⟩
 .obtain⟨t,k,z,n⟩:=s;obtain⟨a1,a2,a3,a4,a5,a6,a7⟩:=hs;unfold Dr Ff;rw[List.append_assoc,List.append_assoc,(DR 0 1).go (x:=if k=true then 1 else 0) (by split<;>omega),JS.go a1];have hk:((if k=true then 1 else 0:Nat)==1)=k:=by cases k<;>rfl
  by_cases q:t.kind=2
  .have b6:z=0:=a6 q;have b2:0<=n:=a2;have b3:n<2^63:=a3;simp only[q,if_true];rw[EM.go (x:=n.toNat) oM];show Except.ok ((⟨t,_==1,0,(n.toNat:Int)⟩:Sl),rest,_)=_;rw[hk,Int.toNat_of_nonneg b2,b6];simp only[List.length_append,Nat.add_assoc]
  .have b7:n=0:=a7 q;have b4:0<=z:=a4;have b5:z<2^32:=a5;simp only[q,if_false];rw[(FI 4).go (x:=z.toNat) (by show z.toNat<256^4;omega)];show Except.ok ((⟨t,_==1,(z.toNat:Int),0⟩:Sl),rest,_)=_;rw[hk,Int.toNat_of_nonneg b4,b7];simp only[List.length_append,Nat.add_assoc]
 .obtain⟨k,m,j,e1,e2,e3,e4,e5⟩:=(DR 0 1).open hb hh;obtain⟨t,m2,j2,f1,f2,f3,f4,f5⟩:=JS.open e4 e5;have hk:(if(k==1)=true then 1 else 0:Nat)=k:=by
   rcases(show k=0\/k=1 by omega)with r|r<;>subst r<;>rfl
  by_cases q:t.kind=2
  .rw[if_pos q]at f5;obtain⟨n,m3,j3,g1,g2,g3,g4,g5⟩:=EM.open f4 f5;have g5':Except.ok ((⟨t,k==1,0,(n:Int)⟩:Sl),m3,j3)=Except.ok (x,l',p'):=g5;simp only[Except.ok.injEq,Prod.mk.injEq]at g5';obtain⟨rfl,rfl,rfl⟩:=g5';refine⟨?_,?_,f3,by show(0:Int)<=(n:Int);omega,by show(n:Int)<2^63;omega,by show(0:Int)<=0;omega,by show(0:Int)<2^32;omega,fun _=>rfl,fun h=>absurd q h⟩
   .unfold Dr;simp only[q,if_true,hk,Int.toNat_natCast];rw[e1,f1,g1];simp only[List.append_assoc]
   .unfold Dr;simp only[q,if_true,hk,Int.toNat_natCast];rw[g2,f2,e2];simp only[List.length_append,Nat.add_assoc]
  .rw[if_neg q]at f5;obtain⟨n,m3,j3,g1,g2,g3,g4,g5⟩:=(FI 4).open f4 f5;have g3':n<256^4:=g3;have g5':Except.ok ((⟨t,k==1,(n:Int),0⟩:Sl),m3,j3)=Except.ok (x,l',p'):=g5;simp only[Except.ok.injEq,Prod.mk.injEq]at g5';obtain⟨rfl,rfl,rfl⟩:=g5';refine⟨?_,?_,f3,by show(0:Int)<=0;omega,by show(0:Int)<2^63;omega,by show(0:Int)<=(n:Int);omega,by show(n:Int)<2^32;omega,fun h=>absurd h q,fun _=>rfl⟩
   .unfold Dr;simp only[q,if_false,hk,Int.toNat_natCast];rw[e1,f1,g1];simp only[List.append_assoc]
   .unfold Dr;simp only[q,if_false,hk,Int.toNat_natCast];rw[g2,f2,e2];simp only[List.length_append,Nat.add_assoc]

section
variable {P : Program} (w : World)
end
section
variable {P : Program} (w : World)
end
section
variable {P : Program} (w : World)
end


theorem Fh(a:Int)(k:Nat)(hk:k<64)(h0:0<=a)(h1:a<18446744073709551616):bits .and .u64 a ((2^k-1:Nat):Int)=a%((2^k:Nat):Int):=by
 have hp:2^k<2^64:=Nat.pow_lt_pow_right oM hk;have hq:0<2^k:=Nat.two_pow_pos k;obtain⟨n,rfl⟩:=Int.eq_ofNat_of_zero_le h0;rw[u64_and _ _ h0 h1 oM oM,Int.toNat_natCast,Int.toNat_natCast,Nat.and_two_pow_sub_one_eq_mod];rfl
theorem Ny(a:Int)(h0:0<=a)(h1:a<18446744073709551616):bits .and .u64 a 255=a%256:=Fh a 8 dE h0 h1
theorem Lv(a:Int)(h0:0<=a)(h1:a<18446744073709551616):bits .and .u64 a 8388607=a%8388608:=Fh a 23 dE h0 h1
def Qr(a:Int):Bool:=a/2147483648==1
def nM(a:Int):Int:=if a/8388608%256=255 then 0 else if a/8388608%256=0 then a%8388608 else 8388608+a%8388608
def nE(a:Int):Int:=if a/8388608%256=255 then 0 else if a/8388608%256=0 then -149 else a/8388608%256-150
def It(a:Int):Bool:=if a/8388608%256=255 then a%8388608==0 else false
def FX(a:Int):Bool:=if a/8388608%256=255 then a%8388608 != 0 else false
theorem On(a:Int)(h0:0<=a)(h1:a<4294967296)(w:World):
 Calls prog 113 #[.int .i64 a] w fun e w'=>e=.returned (.agg #[.bool (Qr a),.int .u64 (nM a),.int .i64 (nE a),.bool (It a),.bool (FX a)])/\∃o,w'=(w.alloc o).alloc o:=by
 have e1:=Ny (a/8388608) oM oM;have e2:=Lv a h0 oM;by_cases c:a/8388608%256=255
 .have f1:nM a=0:=by unfold nM;rw[if_pos c]
  have f2:nE a=0:=by unfold nE;rw[if_pos c]
  have f3:It a=(a%8388608==0):=by unfold It;rw[if_pos c]
  have f4:FX a=(a%8388608 != 0):=by unfold FX;rw[if_pos c]
  exact RE
 .by_cases c2:a/8388608%256=0
  .have f1:nM a=a%8388608:=by unfold nM;rw[if_neg c,if_pos c2]
   have f2:nE a= -149:=by unfold nE;rw[if_neg c,if_pos c2]
   have f3:It a=false:=by unfold It;rw[if_neg c]
   have f4:FX a=false:=by unfold FX;rw[if_neg c]
   exact RE
  .have f1:nM a=8388608+a%8388608:=by unfold nM;rw[if_neg c,if_neg c2]
   have f2:nE a=a/8388608%256-150:=by unfold nE;rw[if_neg c,if_neg c2]
   have f3:It a=false:=by unfold It;rw[if_neg c]
   have f4:FX a=false:=by unfold FX;rw[if_neg c]
   exact RE

theorem LR(a:Int)(h0:0<=a)(h1:a<4294967296):FX a=Iv a:=by
 unfold FX Iv;by_cases c:a/8388608%256=255
 .rw[if_pos c];by_cases d:a%8388608=0
  .have:¬ (2139095040<a%2147483648):=oM;simp[d,this]
  .have:2139095040<a%2147483648:=oM;simp[d,this]
 .rw[if_neg c];have:¬ (2139095040<a%2147483648):=oM;simp[this]
theorem Kh(w:World)(v0 v1 v2 v3 v4:Value):(Instr.field 178 (.agg #[v0,v1,v2,v3,v4]) 4).run prog w=.ok v4 w:=by
 simp[Instr.field,run_underlying underlying178,asAgg,part,go_sem]
theorem Hr(a:Int)(h0:0<=a)(h1:a<4294967296)(w:World):
 Calls prog 91 #[.int .i64 a] w fun e w'=>e=.returned (.int .i64 (Cr a))/\Below w.heap.size w w':=by
 have hf:=Kh;unfold Cr;rw[<-LR a h0 h1];cases hna:FX a
 .rw[if_neg dE];exact SP
 .rw[if_pos rfl];exact SP
end Go.Proofs.YtnlgkkbmbijndaaGreat
