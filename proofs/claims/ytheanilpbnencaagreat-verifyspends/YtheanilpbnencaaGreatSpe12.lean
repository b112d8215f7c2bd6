import Derived.Test.YtheanilpbnencaaGreatSpe8
import Derived.Test.YtheanilpbnencaaGreatSpe10
import Derived.Maps.AppendAt
import Derived.Laws.AppendOwnNone
import Derived.Shelf.Abstract
import Derived.Deep.RegionHeld3
import Derived.Laws.EntriesVeiled
import Derived.Test.YtheanilpbnencaaGreatSpe1
namespace Go.Proofs.YtheanilpbnencaaGreat
open Go.RowKit Go.Proofs.Tryz
set_option linter.all false
set_option maxRecDepth 100000
set_option maxHeartbeats 16000000
theorem Ez(a:Int){d:Ieee.Datum}(h:Ieee.single.read a.toNat=d):CB a=Ny ((d.root 25).map Ieee.single.write):=by
 unfold CB Ieee.Format.sqrt;rw[h];rfl
theorem OH(a:Int)(h0:0<=a)(h1:a<4294967296)(hia:CF a=false)(hna:Bc a=false)(za:nM a≠0)(hs:AK a=false)(root n:Nat)(e:Int)(he:e%2=0)
 (hn:(n:Int)=nM a*2^nk (nM a)*68719476736/\e=nE a-nk (nM a)-36\/(n:Int)=nM a*2^nk (nM a)*68719476736*2/\e=nE a-nk (nM a)-37) (hr1:root*root<=n) (hr2:n<(root+1)*(root+1)):
 CB a=(Ieee.single.nearest false (2*root+(if root*root<n then 1 else 0)) (e/2-1):Nat):=by
 obtain⟨fa,sa,ma,ta⟩:=JA a h0 h1 hia hna;obtain⟨-,a1,a2,a3,a4,-⟩:=Be a h0 h1 hia hna;obtain⟨ka,A1,A2⟩:=DH (nM a) oM a2;obtain⟨r,hr,hnear⟩:=KG a.toNat fa (by rw[sa];exact hs) oM;have hst:(root*root != n).toNat=if root*root<n then 1 else 0:=by
  by_cases c:root*root=n
  .rw[if_neg oM];simp[c]
  .rw[if_pos oM];simp[c]
 obtain⟨x,hx⟩:∃x:Nat,(x:Int)=e/2+149:=⟨(e/2+149).toNat,oM⟩
 have hn59:576460752303423488<=n:=oM;have hroot:16777216<=root:=by
  rcases Nat.lt_or_ge root 16777216 with c|c
  .exfalso;have:=Nat.mul_self_le_mul_self (show root+1<=16777216 from c);omega
  .exact c
 have big:23+2<=(2*root+(root*root != n).toNat).log2:=by
  apply(Nat.le_log2 oM).2;omega
 have h2:=IQ 23 (-149) root n (e/2-1) dE hr1 hr2 big x oM;have hval:n*(2^x*2^x)=mv a.toNat*2^149:=by
  have cA:nM a*2^nk (nM a)=((mg a.toNat*2^nk (nM a):Nat):Int):=by rw[Int.natCast_mul,Db,ma]
  rw[cA]at hn;obtain⟨z,hz⟩:∃z:Nat,z=149:=⟨_,rfl⟩
  rw[Gy,<-hz];rcases hn with⟨hn,hE⟩|⟨hn,hE⟩
  .have hn':n=mg a.toNat*2^nk (nM a)*2^36:=by
    have:(2:Nat)^36=68719476736:=rfl;omega
   exact Z5
  .have hn':n=mg a.toNat*2^nk (nM a)*2^37:=by
    have:(2:Nat)^37=68719476736*2:=rfl;omega
   exact Z5
 rw[hval,hst]at h2;have BD:=hnear.unique h2;unfold CB;rw[hr];show((wd false r:Nat):Int)=_;rw[B9,Cr,Bo,GZ,<-BD]
def WL(n k root:Nat):Prop:=root*root<=n/\n<(root+2^k)*(root+2^k)/\root+2^k<=4294967296
def Ok(k:Nat):Int:=if k=0 then 0 else 2^(k-1)
theorem Om(k:Nat):Ok (k+1)=2^k:=by unfold Ok;rw[if_neg oM];rfl
theorem Ol(k:Nat):(2:Int)^k/2=Ok k:=by
 unfold Ok;rcases Nat.eq_zero_or_pos k with c|c
 .subst c;rfl
 .rw[if_neg oM];obtain⟨j,rfl⟩:∃j,k=j+1:=⟨k-1,oM⟩
  rw[Int.pow_succ,Nat.add_sub_cancel];omega
theorem Pk(a:Int)(h0:0<=a)(h1:a<4294967296)(hia:CF a=false)(hna:Bc a=false)(za:nM a≠0)(hs:AK a=false)(w:World):
 Calls prog 108 #[.int .i64 a] w fun e w'=>e=.returned (.int .i64 (CB a))/\Below w.heap.size w w':=by
 obtain⟨ra,a1,a2,a3,a4,a5⟩:=Be a h0 h1 hia hna;obtain⟨ka,A1,A2⟩:=DH (nM a) oM a2;obtain⟨A,hA⟩:=gA (nM a*2^nk (nM a))
 obtain⟨EA,hEA⟩:=gA (nE a-(nk (nM a):Int))
 have hv:=OH a h0 h1 hia hna za hs;rw[hA,hEA]at hv;rw[hA]at A1 A2;have eb: -172<=EA/\EA<=104:=oM;clear ra a5;have HV:Hid (∀ (root n:Nat) (e:Int),e%2=0->((n:Int)=A*68719476736/\e=EA-36\/(n:Int)=A*68719476736*2/\e=EA-37)->root*root<=n->n<(root+1)*(root+1)->CB a=(Ieee.single.nearest false (2*root+(if root*root<n then 1 else 0)) (e/2-1):Nat)):=fun root n e p q r s=>hv root n e p q r s;clear hv;generalize hF:CB a=F at *;clear hF;by_cases c:EA%2=0
 .skip
  obtain⟨N,hN⟩:∃N:Int,A*68719476736=N:=⟨_,rfl⟩
  obtain⟨e,he⟩:∃e:Int,EA-36=e:=⟨_,rfl⟩
  obtain⟨E2,hE2⟩:∃E2:Int,e/2=E2:=⟨_,rfl⟩
  have hNb:576460752303423488<=N/\N<2305843009213693952:=oM;obtain⟨n,hn⟩:∃n:Nat,(n:Int)=N:=⟨N.toNat,oM⟩
  have hv2:=fun root=>HV.out root n e oM (Or.inl ⟨oM,oM⟩);rw[hE2]at hv2;have htd:e.tdiv 2=E2:=by rw[<-hE2,Int.tdiv_eq_ediv];split<;>omega
  have hodd:e.tmod 2=0:=by rw[Int.tmod_eq_emod];split<;>omega
  exact Yb
 .skip
  have hodd:(EA-36).tmod 2≠0:=by rw[Int.tmod_eq_emod];split<;>omega
  obtain⟨N,hN⟩:∃N:Int,A*68719476736*2=N:=⟨_,rfl⟩
  obtain⟨e,he⟩:∃e:Int,EA-36-1=e:=⟨_,rfl⟩
  obtain⟨E2,hE2⟩:∃E2:Int,e/2=E2:=⟨_,rfl⟩
  have hNb:576460752303423488<=N/\N<2305843009213693952:=oM;obtain⟨n,hn⟩:∃n:Nat,(n:Int)=N:=⟨N.toNat,oM⟩
  have hv2:=fun root=>HV.out root n e oM (Or.inr ⟨oM,oM⟩);rw[hE2]at hv2;have htd:e.tdiv 2=E2:=by rw[<-hE2,Int.tdiv_eq_ediv];split<;>omega
  exact Yb
theorem Pj(a:Int)(h0:0<=a)(h1:a<4294967296)(w:World):
 Calls prog 108 #[.int .i64 a] w fun e w'=>e=.returned (.int .i64 (CB a))/\Below w.heap.size w w':=by
 cases hna:Bc a
 .cases hia:CF a
  .by_cases za:nM a=0
   .obtain⟨ra,a1,a2,a3,a4,a5⟩:=Be a h0 h1 hia hna;have hv:CB a=a:=by
     rw[Ez a ra,za];have e:((Ieee.single.nearest (AK a) 0 (nE a):Nat):Int)=FY (AK a):=EZ _ _;show((Ieee.single.nearest (AK a) 0 (nE a):Nat):Int)=a;rw[e];have h2:=JA a h0 h1 hia hna;have h3:=Dt a h0 h1;have h4:rg a.toNat=0:=by
      have:mg a.toNat=0:=oM;unfold mg at this;split at this<;>omega
     rw[h2.2.1,h4]at h3;unfold FY;omega
    rw[hv];clear hv ra a5;go_enter func108,ntmps108;exact PZ
   .cases hs:AK a
    .exact Pk a h0 h1 hia hna za hs w
    .obtain⟨ra,a1,a2,a3,a4,a5⟩:=Be a h0 h1 hia hna;have hv:CB a=2143289344:=by
      rw[Ez a ra,hs];have:(nM a).toNat≠0:=oM;simp only[Ieee.Datum.root,if_neg this,if_true];rfl
     rw[hv];clear hv ra a5;go_enter func108,ntmps108;exact PZ
  .obtain⟨ra,-,a1⟩:=Cw a h0 h1 hia;cases hs:AK a
   .have hv:CB a=a:=by
     rw[Ez a ra,hs];have h2:rg a.toNat=2139095040:=by
      rcases Nat.lt_trichotomy (rg a.toNat) 2139095040 with c|c|c
      .rw[BB _ c]at ra;cases ra
      .exact c
      .rw[De _ c]at ra;cases ra
     have h3:=Dt a h0 h1;rw[<-Jp a h0 h1,hs,h2]at h3;show((Ieee.single.write (.infinity false):Nat):Int)=a;rw[Bu];unfold FY;omega
    rw[hv];clear hv ra;go_enter func108,ntmps108;exact PZ
   .have hv:CB a=2143289344:=by rw[Ez a ra,hs];rfl
    rw[hv];clear hv ra;go_enter func108,ntmps108;exact PZ
 .have hv:CB a=2143289344:=by
   obtain⟨s,t,e⟩:=E1 a h0 h1 hna;rw[Ez a e];rfl
  rw[hv];clear hv;go_enter func108,ntmps108;exact PZ
def Ar(a:Int):Prop:=0<=a/\a<4294967296
theorem Cm(a:Int)(h:Ar a):Ar (A9 a):=DD a h.1 h.2
theorem Nm(a b:Int):Ar (CJ a b):=Ng a b
theorem TA(a b:Int):Ar (Ki a b):=Tp a b
theorem Tw(a b:Int):Ar (Ek a b):=DR a b
theorem Tu(a b:Int):Ar (F9 a b):=Tl a b
theorem Qx(a:Int):Ar (CB a):=Qs a
theorem Tx(a:Int)(h:Ar a):Ar (Hh a):=Nj a h.1 h.2
theorem Tt(a:Int)(h:Ar a):Ar (Tj a):=DD _ (by have:=h.1;omega) (by have:=h.1;omega)
theorem Jl(a b:Int)(h:Ar a)(k:Ar b):Ar (GL a b):=by
 have h1:=h.1;have h2:=h.2;have k1:=k.1;have k2:=k.2;unfold Ar GL;split
 .decide
 .exact h
 .exact k
 .split
  .exact h
  .exact k
theorem Tv(a b:Int)(h:Ar a)(k:Ar b):Ar (Hg a b):=by
 have h1:=h.1;have h2:=h.2;have k1:=k.1;have k2:=k.2;unfold Ar Hg;split
 .decide
 .exact k
 .exact h
 .split
  .exact k
  .exact h
theorem Tz(c a b:Int)(h:Ar a)(k:Ar b):Ar (Jj c a b):=by
 unfold Jj;split
 .exact Cm b k
 .exact Cm a h
def Nk(f:Int->Int->Int)(s:Int)(X:Nat->Int):Nat->Int
 |0=>s
 |n+1=>f (Nk f s X n) (X n)
theorem Ey{f:Int->Int->Int}(hf:∀a b,Ar a->Ar b->Ar (f a b)){s:Int}(hs:Ar s){X:Nat->Int}(hX:∀i,Ar (X i)):∀n,Ar (Nk f s X n)
 |0=>hs
 |n+1=>hf _ _ (Ey hf hs hX n) (hX n)
def Im(X:Nat->Int)(n:Nat):Int:=Nk CJ 0 X n
def Dy(X:Nat->Int)(n:Nat):Int:=Nk GL 2139095040 X n
theorem Hl:Ar 0:=by unfold Ar;decide
theorem TB(X:Nat->Int)(n:Nat)(hX:∀i,Ar (X i)):Ar (Im X n):=Ey (fun _ _ _ _=>Ng _ _) Hl hX n
def BI(op:Int):Nat:=
 if op=3\/op=11\/op=12\/op=13\/op=14 then 1 else if op=4\/op=5\/op=6\/op=7\/op=8\/op=9\/op=10 then 2 else if op=15 then 3 else 0
def M9(b:Bool):Int:=if b then 1065353216 else 0
theorem Kl(b:Bool):Ar (M9 b):=by unfold Ar M9;cases b<;>decide
theorem B4{c:Prop}[Decidable c]{a b:Int}(h:Ar a)(k:Ar b):Ar (if c then a else b):=by
 split
 .exact h
 .exact k
def Hu(op a b c:Int):Int:=
 if op=3 then A9 a else if op=11 then CB a else if op=12 then Hh a else if op=13 then Tj a else if op=14 then M9 (Wr a)
 else if op=4 then CJ a b else if op=5 then Ki a b else if op=6 then Ek a b else if op=7 then F9 a b else if op=8 then GL a b else if op=9 then Hg a b
 else if op=10 then M9 (Hf a b)else Jj a b c
theorem Nn(op a b c:Int)(ha:Ar a)(hb:Ar b)(hc:Ar c):Ar (Hu op a b c):=
 B4 (Cm a ha) (B4 (Qx a) (B4 (Tx a ha) (B4 (Tt a ha) (B4 (Kl _) (B4 (Nm a b) (B4 (TA a b) (B4 (Tw a b)
  (B4 (Tu a b) (B4 (Jl a b ha hb) (B4 (Tv a b ha hb) (B4 (Kl _) (Tz a b c hb hc))))))))))))
def Gn(X:Nat->Value)(n:Nat):List Value:=(List.range n).map X
theorem UK(X:Nat->Value)(n i:Nat)(h:i<n):(Gn X n)[i]? =some (X i):=by simp[Gn,h]
theorem J5(X:Nat->Value)(n:Nat):Gn X (n+1)=Gn X n++[X n]:=by unfold Gn;rw[List.range_succ];simp
theorem IT{w:World}{base:Nat}{e:TypeId}{v:Value}{n:Nat}{X:Nat->Value}(h:w.ownsRow base e 1 v n (Gn X n)):
 ∃q cap,v=.slice q n cap/\AP w q n X/\(∀b o s,q=some ⟨b,o,s⟩->base<=b)/\(q=none->n=0/\cap=0)/\n<=cap:=by
 rcases h.2 with⟨rfl,hx⟩|⟨g,cap,cur,rfl,hb,hg,rest⟩
 .subst hx;exact⟨none,0,rfl,.inl rfl,fun b o s e=>(by cases e),fun _=>⟨rfl,rfl⟩,gF _⟩
 .refine⟨some ⟨g,0,none⟩,cap,rfl,.inr ⟨g,0,rfl,fun i hi=>?_⟩,fun b o s e=>(by cases e;exact hb),fun e=>(by cases e),rest.1⟩;have:=h.cells (g:=g) rfl i (X i) (UK X n i hi);rw[Nat.zero_add];by_cases c:i=0
  .subst c;simpa[Addr.add]using this
  .simpa[Addr.add,c]using this
theorem Qw:(prog.info? 3).map (fun i=>(i.zero,i.size,i.bytes))=some (some (.int .i64 0),1,8):=kR

theorem PJ(p:Option Addr)(n c:Nat)(X:Nat->Int)(hX:∀i,Ar (X i))(hn:n<=1048576)(w:World)(hp:AP w p n (fun i=>.int .i64 (X i))):
 Calls prog 40 #[.slice p n c] w fun e w'=>e=.returned (.int .i64 (Im X n))/\Below w.heap.size w w':=by
 go_enter func40,ntmps40;go_wp2
 go_loopw [3,4] (fun sv iv wr=>Below w.heap.size w wr/\∃j:Nat,j<=n/\iv=.int .i64 j/\sv=.int .i64 (Im X j)) (fun _ iv _=>n-(intOf iv).toNat)
 case atStart=>exact⟨Iw w,0,gI _,rfl,rfl⟩
 case round=>
  obtain⟨hb,j,hj,rfl,rfl⟩:=hrel;by_cases hlt:j<n
  .rcases hp with hp|⟨b,o,rfl,hp⟩
   .omega
   have hbl:b<w.heap.size:=G9 (hp j hlt);have h1:wr.cell? ⟨b,o+j,none⟩=some (.int .i64 (X j)):=(hb.cell hbl).trans (hp j hlt);have i1:(0:Int)<=(j:Int):=oM;have i2:(j:Int)<(n:Int):=oM;have s1:Ar (Im X j):=Ey (fun _ _ _ _=>Nm _ _) (by unfold Ar;decide) hX j;have x1:=hX j;clear hp hX;go_wp2_with(go_at_call 70;refine(Hy _ s1.1 s1.2 _ x1.1 x1.2 _).mono ?_;rintro e w1 ⟨rfl,hb1⟩);go_roundw
   case rel=>exact⟨H5 hb hb1,j+1,oM,gN,rfl⟩
   case measure=>simp[intOf];omega
  .have:j=n:=oM;subst this;clear hp hX;go_wp2;go_ret;exact⟨rfl,hb⟩
theorem Mz(p:Option Addr)(n c:Nat)(X:Nat->Int)(hX:∀i,Ar (X i))(hn:n<=1048576)(w:World)(hp:AP w p n (fun i=>.int .i64 (X i))):
 Calls prog 41 #[.slice p n c] w fun e w'=>e=.returned (.int .i64 (Dy X n))/\Below w.heap.size w w':=by
 go_enter func41,ntmps41;go_wp2
 go_loopw [3,4] (fun sv iv wr=>Below w.heap.size w wr/\∃j:Nat,j<=n/\iv=.int .i64 j/\sv=.int .i64 (Dy X j)) (fun _ iv _=>n-(intOf iv).toNat)
 case atStart=>exact⟨Iw w,0,gI _,rfl,rfl⟩
 case round=>
  obtain⟨hb,j,hj,rfl,rfl⟩:=hrel;by_cases hlt:j<n
  .rcases hp with hp|⟨b,o,rfl,hp⟩
   .omega
   have hbl:b<w.heap.size:=G9 (hp j hlt);have h1:wr.cell? ⟨b,o+j,none⟩=some (.int .i64 (X j)):=(hb.cell hbl).trans (hp j hlt);have i1:(0:Int)<=(j:Int):=oM;have i2:(j:Int)<(n:Int):=oM;have s1:Ar (Dy X j):=Ey Jl (by unfold Ar;decide) hX j;have x1:=hX j;clear hp hX;go_wp2_with(go_at_call 71;refine(Kx _ s1.1 s1.2 _ x1.1 x1.2 _).mono ?_;rintro e w1 ⟨rfl,hb1⟩);go_roundw
   case rel=>exact⟨H5 hb hb1,j+1,oM,gN,rfl⟩
   case measure=>simp[intOf];omega
  .have:j=n:=oM;subst this;clear hp hX;go_wp2;go_ret;exact⟨rfl,hb⟩
theorem P9(a:Int)(h:Ar a)(w:World):
 Calls prog 112 #[.int .i64 a] w fun e w'=>e=.returned (.bool (Wr a))/\w'=w:=by
 have h0:=h.1;have h1:=h.2;have t1:a.tmod 2147483648=a%2147483648:=Int.tmod_eq_emod_of_nonneg h0;go_enter func112,ntmps112;go_wp2;go_ret;exact⟨rfl,rfl⟩

structure LF(k:IntKind)(w:World)(q:Option Addr)(m:Nat)(P:Nat->Option Addr)(l c:Nat->Nat)(X:Nat->Nat->Int):Prop where
 heads:AP w q m (fun i=>.slice (P i) (l i) (c i))
 parts:∀i,i<m->AP w (P i) (l i) (fun j=>.int k (X i j))
theorem LF.below{k:IntKind}{w w':World}{q:Option Addr}{m:Nat}{P:Nat->Option Addr}{l c:Nat->Nat}{X:Nat->Nat->Int}(h:LF k w q m P l c X)(b:Below w.heap.size w w'):LF k w' q m P l c X:=
 ⟨h.heads.below b,fun i hi=>(h.parts i hi).below b⟩
theorem Mt{w w':World}{base:Nat}{e:TypeId}{v:Value}{n:Nat}{xs:List Value}(h:w.ownsRow base e 1 v n xs)(k:Below w.heap.size w w'):w'.ownsRow base e 1 v n xs:=by
 refine h.kept (row:=none) ⟨k.os,k.tape,k.output,k.size,fun j hj _=>k.block j hj⟩ ?_;cases v.ownBlock<;>simp
theorem GG(op:Int)(h:BI op≠0):op=3\/op=11\/op=12\/op=13\/op=14\/op=4\/op=5\/op=6\/op=7\/op=8\/op=9\/op=10\/op=15:=by
 unfold BI at h;split at h
 .omega
 .split at h
  .omega
  .split at h
   .omega
   .exact absurd rfl h
def Dh(l:Nat->Nat):Nat->Option Nat
 |0=>some (l 0)
 |j+1=>match Dh l j with
  |none=>none
  |some n=>if l (j+1)=n then some n else if l (j+1)=0\/n=0 then none else if n=1 then some (l (j+1))else if l (j+1)=1 then some n else none
theorem FZ{l:Nat->Nat}{j n:Nat}(h:Dh l j=some n):Dh l (j+1)=if l (j+1)=n then some n else if l (j+1)=0\/n=0 then none else if n=1 then some (l (j+1))else if l (j+1)=1 then some n else none:=by
 show(match Dh l j with |none=>none|some n=>_)=_;rw[h]
theorem I7{l:Nat->Nat}{j:Nat}(h:Dh l j=none):∀M,j<=M->Dh l M=none:=by
 intro M;induction M with
 |zero=>
  intro hj;have:j=0:=oM;subst this;exact h
 |succ M ih=>
  intro hj;rcases Nat.lt_or_ge M j with c|c
  .have:j=M+1:=oM;subst this;exact h
  .show(match Dh l M with |none=>none|some n=>_)=_;rw[ih c]
theorem VI{l:Nat->Nat}{N:Nat}(hl:∀i,l i<=N):∀ {M n:Nat},Dh l M=some n->n<=N:=by
 intro M;induction M with
 |zero=>intro n h;cases h;exact hl 0
 |succ M ih=>
  intro n h;cases e:Dh l M with
  |none=>rw[I7 e (M+1) oM]at h;cases h
  |some k=>
   rw[FZ e]at h;have:=ih e;have:=hl (M+1)
   repeat' split at h
   all_goals cases h
   all_goals omega
theorem L7{l:Nat->Nat}:∀ {M n:Nat},Dh l M=some n->∀i,i<=M->l i=n\/(l i=1/\n≠0):=by
 intro M;induction M with
 |zero=>
  intro n h i hi;cases h;have:i=0:=oM;subst this;exact .inl rfl
 |succ M ih=>
  intro n h i hi;cases e:Dh l M with
  |none=>rw[I7 e (M+1) oM]at h;cases h
  |some k=>
   rw[FZ e]at h;have hi':i<=M\/i=M+1:=oM;split at h
   .cases h
    rcases hi' with c|c
    .exact ih e i c
    .subst c;left;assumption
   .split at h
    .cases h
    .split at h
     .cases h
      rcases hi' with c|c
      .have:=ih e i c;omega
      .subst c;exact .inl rfl
     .split at h
      .cases h
       rcases hi' with c|c
       .exact ih e i c
       .subst c;right;omega
      .cases h
def F8(l:Nat->Nat)(X:Nat->Nat->Int)(m i j:Nat):Int:=if j<m then X j (if l j=1 then 0 else i)else 0
theorem By{l:Nat->Nat}{X:Nat->Nat->Int}(hX:∀i j,Ar (X i j))(m i j:Nat):Ar (F8 l X m i j):=B4 (hX _ _) Hl
theorem EY{k:IntKind}{w:World}{b o m:Nat}{P:Nat->Option Addr}{l c:Nat->Nat}{X:Nat->Nat->Int}(h:LF k w (some ⟨b,o,none⟩) m P l c X)(i:Nat)(hi:i<m):w.cell? ⟨b,o+i,none⟩=some (.slice (P i) (l i) (c i)):=by
 rcases h.heads with q|⟨b',o',e,hh⟩
 .omega
 .cases e;exact hh i hi
theorem Px{l:Nat->Nat}{M n i j:Nat}(h:Dh l M=some n)(hj:j<=M)(hi:i<n):l j=1\/i<l j:=by
 rcases L7 h j hj with e|e
 .right;omega
 .left;exact e.1
theorem Ie(op:Int):BI op<=3:=by
 unfold BI;split
 .omega
 .split
  .omega
  .split<;>omega

def sl:Nat->Nat:=fun i=>if i=0 then 2 else 1
def rn(l:Nat->Nat):Nat->Nat
 |0=>l 0
 |j+1=>if rn l j=1\/l j=0 then l j else rn l j
theorem VG{l:Nat->Nat}:∀ {M n:Nat},Dh l M=some n->rn l (M+1)=n:=by
 intro M;induction M with
 |zero=>intro n h;cases h;show(if l 0=1\/l 0=0 then l 0 else l 0)=l 0;split<;>rfl
 |succ M ih=>
  intro n h;cases e:Dh l M with
  |none=>rw[I7 e (M+1) oM]at h;cases h
  |some k=>
   rw[FZ e]at h;have hk:=ih e;show(if rn l (M+1)=1\/l (M+1)=0 then l (M+1)else rn l (M+1))=n;rw[hk];split at h
   .cases h;split<;>omega
   .split at h
    .cases h
    .split at h
     .cases h;rw[if_pos oM]
     .split at h
      .cases h;rw[if_neg oM]
      .cases h
theorem RQ(w:World):Calls prog 65 #[.int .i64 3] w fun e w'=>e=.returned (.int .i64 1)/\w'=w:=by
 exact N5
theorem Pm(w:World):Calls prog 65 #[.int .i64 11] w fun e w'=>e=.returned (.int .i64 1)/\w'=w:=by
 exact N5
theorem Pn(w:World):Calls prog 65 #[.int .i64 12] w fun e w'=>e=.returned (.int .i64 1)/\w'=w:=by
 exact N5
theorem Po(w:World):Calls prog 65 #[.int .i64 13] w fun e w'=>e=.returned (.int .i64 1)/\w'=w:=by
 exact N5
theorem Pp(w:World):Calls prog 65 #[.int .i64 14] w fun e w'=>e=.returned (.int .i64 1)/\w'=w:=by
 exact N5
theorem RS(w:World):Calls prog 65 #[.int .i64 4] w fun e w'=>e=.returned (.int .i64 2)/\w'=w:=by
 exact N5
theorem RT(w:World):Calls prog 65 #[.int .i64 5] w fun e w'=>e=.returned (.int .i64 2)/\w'=w:=by
 exact N5
theorem RU(w:World):Calls prog 65 #[.int .i64 6] w fun e w'=>e=.returned (.int .i64 2)/\w'=w:=by
 exact N5
theorem RX(w:World):Calls prog 65 #[.int .i64 7] w fun e w'=>e=.returned (.int .i64 2)/\w'=w:=by
 exact N5
theorem RY(w:World):Calls prog 65 #[.int .i64 8] w fun e w'=>e=.returned (.int .i64 2)/\w'=w:=by
 exact N5
theorem RZ(w:World):Calls prog 65 #[.int .i64 9] w fun e w'=>e=.returned (.int .i64 2)/\w'=w:=by
 exact N5
theorem Pl(w:World):Calls prog 65 #[.int .i64 10] w fun e w'=>e=.returned (.int .i64 2)/\w'=w:=by
 exact N5
theorem Pq(w:World):Calls prog 65 #[.int .i64 15] w fun e w'=>e=.returned (.int .i64 3)/\w'=w:=by
 exact N5
theorem Ps(op:Int)(h:BI op=0)(w:World):Calls prog 65 #[.int .i64 op] w fun e w'=>e=.returned (.int .i64 0)/\w'=w:=by
 have n1:¬ (op=3\/op=11\/op=12\/op=13\/op=14):=fun c=>by unfold BI at h;rw[if_pos c]at h;cases h
 have n2:¬ (op=4\/op=5\/op=6\/op=7\/op=8\/op=9\/op=10):=fun c=>by unfold BI at h;rw[if_neg n1,if_pos c]at h;cases h
 have n3:¬ (op=15):=fun c=>by unfold BI at h;rw[if_neg n1,if_neg n2,if_pos c]at h;cases h
 simp only[not_or]at n1 n2;obtain⟨a1,a2,a3,a4,a5⟩:=n1;obtain⟨b1,b2,b3,b4,b5,b6,b7⟩:=n2;clear h;exact N5
theorem I3(op:Int)(w:World):Calls prog 65 #[.int .i64 op] w fun e w'=>e=.returned (.int .i64 (BI op:Nat))/\w'=w:=by
 by_cases h:BI op=0
 .rw[h];exact Ps op h w
 .rcases GG op h with rfl|rfl|rfl|rfl|rfl|rfl|rfl|rfl|rfl|rfl|rfl|rfl|rfl
  .exact RQ w
  .exact Pm w
  .exact Pn w
  .exact Po w
  .exact Pp w
  .exact RS w
  .exact RT w
  .exact RU w
  .exact RX w
  .exact RY w
  .exact RZ w
  .exact Pl w
  .exact Pq w
theorem IV(b:Bool)(w:World):Calls prog 111 #[.bool b] w fun e w'=>e=.returned (.int .i64 (M9 b))/\w'=w:=by
 cases b<;>(go_enter func111,ntmps111;go_wp2;go_ret;exact⟨rfl,rfl⟩)
theorem WC(a b c:Int)(ha:Ar a)(hb:Ar b)(hc:Ar c)(w:World):Calls prog 90 #[.int .i64 3,.int .i64 a,.int .i64 b,.int .i64 c] w fun e w'=>e=.returned (.int .i64 (Hu 3 a b c))/\Below w.heap.size w w':=by
 go_enter func90,ntmps90;go_wp2_with(first|(go_at_call 35;refine(DY _ ha.1 ha.2 _).mono ?_;rintro e w1 ⟨rfl,hw1⟩;obtain rfl:=hw1.symm));go_ret;exact⟨rfl,Iw _⟩
theorem VA(a b c:Int)(ha:Ar a)(hb:Ar b)(hc:Ar c)(w:World):Calls prog 90 #[.int .i64 11,.int .i64 a,.int .i64 b,.int .i64 c] w fun e w'=>e=.returned (.int .i64 (Hu 11 a b c))/\Below w.heap.size w w':=by
 go_enter func90,ntmps90;go_wp2_with(first|(go_at_call 108;refine(Pj _ ha.1 ha.2 _).mono ?_;rintro e w1 ⟨rfl,hb1⟩));go_ret;exact⟨rfl,hb1⟩
theorem VB(a b c:Int)(ha:Ar a)(hb:Ar b)(hc:Ar c)(w:World):Calls prog 90 #[.int .i64 12,.int .i64 a,.int .i64 b,.int .i64 c] w fun e w'=>e=.returned (.int .i64 (Hu 12 a b c))/\Below w.heap.size w w':=by
 go_enter func90,ntmps90;go_wp2_with(first|(go_at_call 109;refine(Ky _ ha.1 ha.2 _).mono ?_;rintro e w1 ⟨rfl,hb1⟩));go_ret;exact⟨rfl,hb1⟩
theorem VC(a b c:Int)(ha:Ar a)(hb:Ar b)(hc:Ar c)(w:World):Calls prog 90 #[.int .i64 13,.int .i64 a,.int .i64 b,.int .i64 c] w fun e w'=>e=.returned (.int .i64 (Hu 13 a b c))/\Below w.heap.size w w':=by
 go_enter func90,ntmps90;go_wp2_with(first|(go_at_call 110;refine(QV _ ha.1 ha.2 _).mono ?_;rintro e w1 ⟨rfl,hb1⟩));go_ret;exact⟨rfl,hb1⟩
theorem VD(a b c:Int)(ha:Ar a)(hb:Ar b)(hc:Ar c)(w:World):Calls prog 90 #[.int .i64 14,.int .i64 a,.int .i64 b,.int .i64 c] w fun e w'=>e=.returned (.int .i64 (Hu 14 a b c))/\Below w.heap.size w w':=by
 go_enter func90,ntmps90;go_wp2_with(first|(go_at_call 112;refine(P9 _ ha _).mono ?_;rintro e w1 ⟨rfl,hw1⟩;obtain rfl:=hw1.symm)|(go_at_call 111;refine(IV _ _).mono ?_;rintro e w1 ⟨rfl,hw1⟩;obtain rfl:=hw1.symm));go_ret;exact⟨rfl,Iw _⟩
theorem WD(a b c:Int)(ha:Ar a)(hb:Ar b)(hc:Ar c)(w:World):Calls prog 90 #[.int .i64 4,.int .i64 a,.int .i64 b,.int .i64 c] w fun e w'=>e=.returned (.int .i64 (Hu 4 a b c))/\Below w.heap.size w w':=by
 go_enter func90,ntmps90;go_wp2_with(first|(go_at_call 70;refine(Hy _ ha.1 ha.2 _ hb.1 hb.2 _).mono ?_;rintro e w1 ⟨rfl,hb1⟩));go_ret;exact⟨rfl,hb1⟩
theorem WF(a b c:Int)(ha:Ar a)(hb:Ar b)(hc:Ar c)(w:World):Calls prog 90 #[.int .i64 5,.int .i64 a,.int .i64 b,.int .i64 c] w fun e w'=>e=.returned (.int .i64 (Hu 5 a b c))/\Below w.heap.size w w':=by
 go_enter func90,ntmps90;go_wp2_with(first|(go_at_call 113;refine(RP _ ha.1 ha.2 _ hb.1 hb.2 _).mono ?_;rintro e w1 ⟨rfl,hb1⟩));go_ret;exact⟨rfl,hb1⟩
theorem WH(a b c:Int)(ha:Ar a)(hb:Ar b)(hc:Ar c)(w:World):Calls prog 90 #[.int .i64 6,.int .i64 a,.int .i64 b,.int .i64 c] w fun e w'=>e=.returned (.int .i64 (Hu 6 a b c))/\Below w.heap.size w w':=by
 go_enter func90,ntmps90;go_wp2_with(first|(go_at_call 68;refine(I2 _ ha.1 ha.2 _ hb.1 hb.2 _).mono ?_;rintro e w1 ⟨rfl,hb1⟩));go_ret;exact⟨rfl,hb1⟩
theorem WI(a b c:Int)(ha:Ar a)(hb:Ar b)(hc:Ar c)(w:World):Calls prog 90 #[.int .i64 7,.int .i64 a,.int .i64 b,.int .i64 c] w fun e w'=>e=.returned (.int .i64 (Hu 7 a b c))/\Below w.heap.size w w':=by
 go_enter func90,ntmps90;go_wp2_with(first|(go_at_call 114;refine(QY _ ha.1 ha.2 _ hb.1 hb.2 _).mono ?_;rintro e w1 ⟨rfl,hb1⟩));go_ret;exact⟨rfl,hb1⟩
theorem WJ(a b c:Int)(ha:Ar a)(hb:Ar b)(hc:Ar c)(w:World):Calls prog 90 #[.int .i64 8,.int .i64 a,.int .i64 b,.int .i64 c] w fun e w'=>e=.returned (.int .i64 (Hu 8 a b c))/\Below w.heap.size w w':=by
 go_enter func90,ntmps90;go_wp2_with(first|(go_at_call 71;refine(Kx _ ha.1 ha.2 _ hb.1 hb.2 _).mono ?_;rintro e w1 ⟨rfl,hb1⟩));go_ret;exact⟨rfl,hb1⟩
theorem WK(a b c:Int)(ha:Ar a)(hb:Ar b)(hc:Ar c)(w:World):Calls prog 90 #[.int .i64 9,.int .i64 a,.int .i64 b,.int .i64 c] w fun e w'=>e=.returned (.int .i64 (Hu 9 a b c))/\Below w.heap.size w w':=by
 go_enter func90,ntmps90;go_wp2_with(first|(go_at_call 115;refine(R1 _ ha.1 ha.2 _ hb.1 hb.2 _).mono ?_;rintro e w1 ⟨rfl,hb1⟩));go_ret;exact⟨rfl,hb1⟩
theorem Vz(a b c:Int)(ha:Ar a)(hb:Ar b)(hc:Ar c)(w:World):Calls prog 90 #[.int .i64 10,.int .i64 a,.int .i64 b,.int .i64 c] w fun e w'=>e=.returned (.int .i64 (Hu 10 a b c))/\Below w.heap.size w w':=by
 go_enter func90,ntmps90;go_wp2_with(first|(go_at_call 116;refine(Pd _ ha.1 ha.2 _ hb.1 hb.2 _).mono ?_;rintro e w1 ⟨rfl,hb1⟩)|(go_at_call 111;refine(IV _ _).mono ?_;rintro e w2 ⟨rfl,hw2⟩;obtain rfl:=hw2.symm));go_ret;exact⟨rfl,hb1⟩
theorem VE(a b c:Int)(ha:Ar a)(hb:Ar b)(hc:Ar c)(w:World):Calls prog 90 #[.int .i64 15,.int .i64 a,.int .i64 b,.int .i64 c] w fun e w'=>e=.returned (.int .i64 (Hu 15 a b c))/\Below w.heap.size w w':=by
 go_enter func90,ntmps90;go_wp2_with(first|(go_at_call 117;refine(KP _ ha.1 ha.2 _ hb.1 hb.2 _ hc.1 hc.2 _).mono ?_;rintro e w1 ⟨rfl,hb1⟩));go_ret;exact⟨rfl,hb1⟩
theorem Ue(op:Int)(h:BI op≠0)(a b c:Int)(ha:Ar a)(hb:Ar b)(hc:Ar c)(w:World):Calls prog 90 #[.int .i64 op,.int .i64 a,.int .i64 b,.int .i64 c] w fun e w'=>e=.returned (.int .i64 (Hu op a b c))/\Below w.heap.size w w':=by
 rcases GG op h with rfl|rfl|rfl|rfl|rfl|rfl|rfl|rfl|rfl|rfl|rfl|rfl|rfl
 .exact WC a b c ha hb hc w
 .exact VA a b c ha hb hc w
 .exact VB a b c ha hb hc w
 .exact VC a b c ha hb hc w
 .exact VD a b c ha hb hc w
 .exact WD a b c ha hb hc w
 .exact WF a b c ha hb hc w
 .exact WH a b c ha hb hc w
 .exact WI a b c ha hb hc w
 .exact WJ a b c ha hb hc w
 .exact WK a b c ha hb hc w
 .exact Vz a b c ha hb hc w
 .exact VE a b c ha hb hc w
theorem Ud(p:Option Addr)(n c i:Nat)(X:Nat->Int)(hn:n<=1048576)(hi:i<=1048576)(h:n=1\/i<n)(w:World)(hp:AP w p n (fun j=>.int .i64 (X j))):
 Calls prog 89 #[.slice p n c,.int .i64 i] w fun e w'=>e=.returned (.int .i64 (X (if n=1 then 0 else i)))/\w'=w:=by
 rcases hp with hp|⟨b,o,rfl,hp⟩
 .omega
 by_cases h1:n=1
 .subst h1;have c1:=hp 0 oM;rw[Nat.add_zero]at c1;rw[if_pos rfl];clear hp h;go_enter func89,ntmps89;go_wp2;go_ret;exact⟨rfl,rfl⟩
 .have c1:=hp i oM;have n1:¬ ((n:Int)=1):=oM;have i1:(0:Int)<=(i:Int):=oM;have i2:(i:Int)<(n:Int):=oM;rw[if_neg h1];clear hp h;go_enter func89,ntmps89;go_wp2;go_ret;exact⟨rfl,rfl⟩
def SF(w:World)(l:Nat->Nat)(m:Nat)(nv iv:Value)(wr:World):Prop:=wr=w/\∃j R:Nat,j<=m/\iv=.int .i64 j/\nv=.int .i64 R/\R=rn l j
def SG(w:World)(m:Nat)(iv:Value)(wr:World):Prop:=wr=w/\∃i:Nat,i<=m/\iv=.int .i64 i
theorem VF(F:Nat->Int)(j k:Nat):(if k=j then Value.int .i64 (F j)else .int .i64 (if k<j then F k else 0))=.int .i64 (if k<j+1 then F k else 0):=by
 by_cases h:k=j
 .subst h;rw[if_pos rfl,if_pos oM]
 .rw[if_neg h];by_cases h2:k<j
  .rw[if_pos h2,if_pos oM]
  .rw[if_neg h2,if_neg oM]
theorem Y2(w:World)(t:TypeId):(w.alloc (.cells #[.int .i64 0,.int .i64 0,.int .i64 0] t)).rowIs w.heap.size t 3 (fun _=>.int .i64 0):=
 World.rowIs_alloc w #[.int .i64 0,.int .i64 0,.int .i64 0] t (fun _=>.int .i64 0) (by
  intro i hi;have:i=0\/i=1\/i=2:=by simp at hi;omega
  rcases this with rfl|rfl|rfl<;>rfl)
theorem P2(op:Int)(h0:BI op≠0)(b o m cq:Nat)(hm:BI op=m)(n:Nat)(P:Nat->Option Addr)(l c:Nat->Nat)(X:Nat->Nat->Int)(hX:∀i j,Ar (X i j))(hl:∀i,l i<=1048576)(hs:Dh l (m-1)=some n)(w:World)(hL:LF .i64 w (some ⟨b,o,none⟩) m P l c X):
 Calls prog 64 #[.int .i64 op,.slice (some ⟨b,o,none⟩) m cq] w fun e w'=>∃q cap,e=.returned (.tuple #[.slice q n cap,.int .i64 0])/\AP w' q n (fun i=>.int .i64 (Hu op (F8 l X m i 0) (F8 l X m i 1) (F8 l X m i 2)))/\Below w.heap.size w w'/\∀b o s,q=some ⟨b,o,s⟩->w.heap.size<=b:=by
 obtain⟨i0,hi0,hz0,hz1,hz2⟩:=info_parts Qw;have hn:n<=1048576:=VI hl hs;have hm3:m<=3:=by rw[<-hm];exact Ie op
 have ht:¬ ((m:Int)=0):=oM;have hm1:1<=m:=oM;have HL:Hid (LF .i64 w (some ⟨b,o,none⟩) m P l c X/\(∀i,l i<=1048576)/\Dh l (m-1)=some n/\(∀i j,Ar (X i j))):=⟨hL,hl,hs,hX⟩
 have H0:Hid (BI op≠0/\BI op=m):=⟨h0,hm⟩
 have h00:=EY hL 0 oM;rw[Nat.add_zero]at h00;have d0:((m:Int)==0)=false:=sO;clear hL hl hs hX h0 hm;go_enter func64,ntmps64;go_wp2_with(go_at_call 65;refine(I3 op _).mono ?_;rintro e w1 ⟨rfl,hw1⟩;obtain rfl:=hw1.symm;rw[H0.2])
 go_loopw [7,8] (fun nv iv wr=>SF w l m nv iv wr) (fun _ iv _=>m-(intOf iv).toNat)
 case atStart=>unfold SF;exact⟨rfl,0,_,gI _,rfl,rfl,rfl⟩
 case round=>
  obtain⟨rfl,j,R,hj,rfl,rfl,hR⟩:=hrel;by_cases hlt:j<m
  .have h1:=EY HL.1 j hlt;have i1:(0:Int)<=(j:Int):=oM;have i2:(j:Int)<(m:Int):=oM;obtain⟨L,hLL⟩:∃L,L=l j:=⟨_,rfl⟩
   have HRN:Hid (rn l (j+1)=if R=1\/L=0 then L else R):=by rw[hR];subst hLL;rfl
   rw[<-hLL]at h1;clear hR hLL;by_cases c1:R=1
   .have HR1:Hid (rn l (j+1)=L):=by rw[HRN.out,if_pos (.inl c1)];exact rfl
    subst c1;exact Zb
   .have c2:¬ ((R:Int)=1):=oM;by_cases c3:L=0
    .have HR1:Hid (rn l (j+1)=L):=by rw[HRN.out,if_pos (.inr c3)];exact rfl
     subst c3;go_wp2;go_roundw
     case rel=>unfold SF;exact⟨rfl,j+1,0,oM,gN,rfl,HR1.symm⟩
     case measure=>simp[intOf];omega
    .have HR1:Hid (rn l (j+1)=R):=by rw[HRN.out,if_neg oM];exact rfl
     have c4:¬ ((L:Int)=0):=oM;have d1:((R:Int)==1)=false:=by simp[c2]
     have d2:((L:Int)==0)=false:=sO;exact Zb
  .have:j=m:=oM;subst this;have hrn:n=R:=by rw[hR];have:=VG HL.2.2.1;rw[show j-1+1=j by omega]at this;exact this.symm
   subst hrn;clear hR;go_wp2
   go_loopw [9] (fun iv wr'=>SG wr j iv wr') (fun iv _=>j-(intOf iv).toNat)
   case atStart=>unfold SG;exact⟨rfl,0,gI _,rfl⟩
   case round=>
    obtain⟨rfl,i,hi,rfl⟩:=hrel;by_cases hlt:i<j
    .have h1:=EY HL.1 i hlt;have i1:(0:Int)<=(i:Int):=oM;have i2:(i:Int)<(j:Int):=oM;have hg:=L7 HL.2.2.1 i oM;obtain⟨L,hLL⟩:∃L,L=l i:=⟨_,rfl⟩
     rw[<-hLL]at h1 hg;clear hLL;by_cases c1:L=n
     .subst c1;clear hg;go_wp2;go_roundw
      case rel=>unfold SG;exact⟨rfl,i+1,oM,gN⟩
      case measure=>simp[intOf];omega
     .have c2:L=1:=oM;have c3:¬ ((n:Int)=0):=oM;have c4:¬ ((1:Int)=(n:Int)):=oM;have d1:((n:Int)==0)=false:=sO;have d2:((1:Int) != (n:Int))=true:=by simp[c4]
      subst c2;clear hg;go_wp2;go_roundw
      case rel=>unfold SG;exact⟨rfl,i+1,oM,gN⟩
      case measure=>simp[intOf];omega
    .have:i=j:=oM;subst this;obtain⟨G,HG⟩:∃G:Nat->Int,Hid (G=fun t=>Hu op (F8 l X i t 0) (F8 l X i t 1) (F8 l X i t 2)):=⟨_,rfl⟩
     clear h00;rename World=>W0;go_wp2
     go_loopw [10,11] (fun ov iv wr=>Below W0.heap.size W0 wr/\∃ (k:Nat) (v:Value),v=ov/\k<=n/\iv=.int .i64 k/\Hid (wr.ownsRow W0.heap.size 3 1 v k (Gn (fun t=>.int .i64 (G t)) k))) (fun _ iv _=>n-(intOf iv).toNat)
     case atStart=>exact⟨Iw _,0,_,rfl,gI _,rfl,World.ownsRow_nil _ _ _ _⟩
     case round=>
      obtain⟨hb,k,ov,rfl,hk,rfl,hown⟩:=hrel;by_cases hlt:k<n
      .rename World=>W3;have i1:(k:Int)<(n:Int):=oM;obtain⟨E,HE⟩:∃E:Nat->Int,Hid (E=F8 l X i k):=⟨_,rfl⟩
       have HGk:Hid (Hu op (E 0) (E 1) (E 2)=G k/\Ar (E 0)/\Ar (E 1)/\Ar (E 2)):=by
        have e1:=HE.out;have e2:=HG.out;have hXX:=HL.2.2.2;subst e1;subst e2;exact⟨rfl,By hXX _ _ _,By hXX _ _ _,By hXX _ _ _⟩
       have HT:Hid ((W3.alloc (.cells #[.int .i64 0,.int .i64 0,.int .i64 0] 149)).rowIs W3.heap.size 149 3 (fun _=>.int .i64 0)):=Y2 W3 _;go_wp2
       go_loopw [13] (fun iv wr=>Below W3.heap.size W3 wr/\∃j:Nat,j<=i/\iv=.int .i64 j/\Hid (wr.rowIs W3.heap.size 149 3 (fun t=>.int .i64 (if t<j then E t else 0)))) (fun iv _=>i-(intOf iv).toNat)
       case atStart=>exact⟨Mj W3 _,0,gI _,rfl,HT.congr fun t ht=>by simp⟩
       case round=>
        obtain⟨hb4,j,hj,rfl,hrow⟩:=hrel;clear HT;by_cases hlt4:j<i
        .have hL4:=HL.1.below (H5 hb hb4);have h1:=EY hL4 j hlt4;have HPJ:Hid (AP wr (P j) (l j) (fun t=>.int .i64 (X j t))/\(l j=1\/k<l j)/\X j (if l j=1 then 0 else k)=E j/\l j<=1048576):=⟨hL4.parts j hlt4,Px HL.2.2.1 oM hlt,by rw[HE.out];unfold F8;rw[if_pos hlt4],HL.2.1 j⟩
         have c1:=hrow.cell (i:=j) oM;have f1:=hrow.frozen j;have i2:(0:Int)<=(j:Int):=oM;have i3:(j:Int)<(i:Int):=oM;have i4:(j:Int)<3:=oM;have j3:j<3:=oM;have HR:Hid (∀x,(wr.setCell ⟨W3.heap.size,j,none⟩ x).rowIs W3.heap.size 149 3 (fun t=>if t=j then x else .int .i64 (if t<j then E t else 0))):=fun x=>hrow.set j x;clear hL4;go_wp2_with(go_at_call 89;refine(Ud _ _ _ k (X j) HPJ.2.2.2 oM HPJ.2.1 wr HPJ.1).mono ?_;rintro e w5 ⟨rfl,hw5⟩;obtain rfl:=hw5.symm;rw[HPJ.2.2.1]);go_roundw
         case rel=>exact⟨hb4.setCell (gF _) _,j+1,oM,gN,(HR.out _).congr fun t ht=>VF E j t⟩
         case measure=>simp[intOf];omega
        .have:j=i:=oM;subst this;have e0:∀t,t<3->(if t<j then E t else 0)=E t:=by
          intro t ht;by_cases q:t<j
          .rw[if_pos q]
          .rw[if_neg q,HE.out];unfold F8;rw[if_neg q]
         have r1:=hrow.congr (g:=fun t=>.int .i64 (E t)) (fun t ht=>by rw[e0 t ht]);have c0:=r1.cell (i:=0) oM;have c1:=r1.cell (i:=1) oM;have c2:=r1.cell (i:=2) oM;clear r1 e0 hrow;go_wp2_with(first
          |(go_at_call 90;refine(Ue op H0.1 (E 0) (E 1) (E 2) HGk.2.1 HGk.2.2.1 HGk.2.2.2 wr).mono ?_;rintro e w6 ⟨rfl,hb6⟩;rw[HGk.1];have hown6:Hid (w6.ownsRow W0.heap.size 3 1 ov k (Gn (fun t=>.int .i64 (G t)) k)):=Mt hown.out (H5 hb4 hb6);have hob:Hid (∀j,ov.ownBlock=some j->W0.heap.size<=j/\j<W3.heap.size):=hown.lt;have HB6:Below W0.heap.size W0 w6:=H5 (H5 hb hb4) hb6;have sz:=HB6.size)
          |(at_builtin;refine wpList_append_own _ rfl _ _ 58 rfl W0.heap.size 3 i0 _ 1 8 underlying58 hi0 hz0 hz1 hz2 rfl dE ov k (Gn (fun t=>.int .i64 (G t)) k) rfl (hown6.alloc _) ⟨w6.heap.size,0,none⟩ 1 1 [.int .i64 (G k)] rfl rfl (World.news_of_block (cs:=#[.int .i64 (G k)]) (t:=3) (fr:=(0,0)) (heap_alloc_new w6 _)) Sz mL oM sO ?_;intro v' w7 hown7 hgrow hnil;have HB7:Below W0.heap.size W0 w7:=Below.grown (HB6.alloc sz _) hgrow sO (fun j e=>(hob.out j e).1);have HO:Hid (w7.ownsRow W0.heap.size 3 1 v' (k+1) (Gn (fun t=>.int .i64 (G t)) k++[.int .i64 (G k)])):=hown7;clear hown7 hgrow hnil))
         go_roundw
         case rel=>exact⟨HB7,k+1,_,rfl,oM,gN,by rw[J5];exact HO⟩
         case measure=>simp[intOf];omega
      .have:k=n:=oM;subst this;obtain⟨q,cap,rfl,hR,hg,-⟩:=IT hown.out;have HR:Hid (AP wr q k (fun t=>.int .i64 (G t))):=hR;have HLO:Hid (∀b o s,q=some ⟨b,o,s⟩->W0.heap.size<=b):=hg;clear hR hg hown;go_wp2;go_returns;have e2:=HG.out;subst e2;first|exact⟨_,_,rfl,HR.out,hb,HLO.out⟩|exact⟨_,⟨_,rfl⟩,HR.out,hb,HLO.out⟩
end Go.Proofs.YtheanilpbnencaaGreat
