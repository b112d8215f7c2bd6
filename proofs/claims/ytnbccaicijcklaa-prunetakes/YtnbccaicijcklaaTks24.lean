import Derived.Test.YtnbccaicijcklaaTks19
import Derived.Test.YtnbccaicijcklaaTks1
namespace Go.Proofs.Ytnbccaicijcklaa
open Go.RowKit Go.Proofs.Try
set_option linter.all false
set_option maxRecDepth 100000
set_option maxHeartbeats 16000000
def AC(l:List Aa)(p:Nat):Nat->List Nat
 |0=>[]
 |k+1=>match l[k]?,(At (l.take k)).head? with
  |some i,some b=>if(i.op=35\/i.op=37)/\b<=p/\p<=k then AC l p k++[b,k]else AC l p k
  |_,_=>AC l p k
section
variable {l : List Aa}
theorem Hx{p k b:Nat}{S:List Nat}(hk:k<l.length)(o:l[k].op=35\/l[k].op=37)(hs:At (l.take k)=b::S):AC l p (k+1)=if b<=p/\p<=k then AC l p k++[b,k]else AC l p k:=by
 rw[AC,List.getElem?_eq_getElem hk,hs];show(if(l[k].op=35\/l[k].op=37)/\b<=p/\p<=k then _ else _)=_;by_cases e:b<=p/\p<=k
 ·rw[if_pos ⟨o,e⟩,if_pos e]
 ·rw[if_neg (fun h=>e h.2),if_neg e]
theorem Hy{p k:Nat}(hk:k<l.length)(o:¬ (l[k].op=35\/l[k].op=37)):AC l p (k+1)=AC l p k:=by
 rw[AC,List.getElem?_eq_getElem hk];cases(At (l.take k)).head? with
 |none=>rfl
 |some b=>exact if_neg (fun h=>o h.1)
theorem FI(p:Nat):∀k,(AC l p k).length<=2*k
 |0=>Nat.zero_le _
 |k+1=>by
  have ih:=FI p k;rw[AC];split
  ·split
   ·rw[List.length_append];simp only[List.length_cons,List.length_nil];omega
   ·omega
  ·omega
theorem Ca{p:Nat}{m:Nat}:∀k,k<=l.length->(m∈AC l p k↔∃b e,e<k/\AI l b e/\b<=p/\p<=e/\(m=b\/m=e))
 |0,_=>⟨fun h=>Ho,fun⟨_,_,h,_⟩=>absurd h oM⟩
 |k+1,hk=>by
  have hkl:k<l.length:=oM;have ih:=Ca (p:=p) (m:=m) k oM;have up:(∃b e,e<k/\AI l b e/\b<=p/\p<=e/\(m=b\/m=e))->∃b e,e<k+1/\AI l b e/\b<=p/\p<=e/\(m=b\/m=e):=fun⟨b,e,h1,h2⟩=>⟨b,e,oM,h2⟩
  by_cases o:l[k].op=35\/l[k].op=37
  ·cases hs:At (l.take k)with
   |nil=>
    have e1:AC l p (k+1)=AC l p k:=by rw[AC,List.getElem?_eq_getElem hkl,hs];rfl
    rw[e1,ih];refine⟨up,fun⟨b,e,h1,h2,h3⟩=>⟨b,e,?_,h2,h3⟩⟩;have:e≠k:=fun q=>by subst q;obtain⟨_,_,h⟩:=h2;rw[hs]at h;cases h
    omega
   |cons b S=>
    rw[Hx hkl o hs];have hm:AI l b k:=⟨hkl,o,by rw[hs];rfl⟩
    by_cases q:b<=p/\p<=k
    ·rw[if_pos q,List.mem_append,ih];refine⟨fun h=>?_,fun⟨b',e,h1,h2,h3,h4,h5⟩=>?_⟩
     ·rcases h with h|h
      ·exact up h
      ·refine⟨b,k,oM,hm,q.1,q.2,?_⟩;simpa using h
     ·by_cases ek:e=k
      ·subst ek;obtain⟨_,_,h⟩:=h2;rw[hs]at h;simp only[List.head?_cons,Option.some.injEq]at h;subst h;exact .inr (by simpa using h5)
      ·exact .inl ⟨b',e,oM,h2,h3,h4,h5⟩
    ·rw[if_neg q,ih];refine⟨up,fun⟨b',e,h1,h2,h3,h4,h5⟩=>⟨b',e,?_,h2,h3,h4,h5⟩⟩;have:e≠k:=fun w=>by
      subst w;obtain⟨_,_,h⟩:=h2;rw[hs]at h;simp only[List.head?_cons,Option.some.injEq]at h;subst h;exact q ⟨h3,h4⟩
     omega
  ·rw[Hy hkl o,ih];refine⟨up,fun⟨b,e,h1,h2,h3⟩=>⟨b,e,?_,h2,h3⟩⟩;have:e≠k:=fun q=>by subst q;obtain⟨_,h,_⟩:=h2;exact o h
   omega
theorem Gd{b:Nat}:∀k,k<=l.length->b∈At (l.take k)->∀j,b<j->j<=k->b∈At (l.take j)
 |0,_,hb,_,_,_=>by cases hb
 |k+1,hk,hb,j,h1,h2=>by
  have hkl:k<l.length:=oM;by_cases e:j=k+1
  ·rw[e];exact hb
  ·have hb':b∈At (l.take k):=by
    rw[CO hkl]at hb;split at hb
    ·rcases List.mem_cons.1 hb with q|q
     ·omega
     ·exact q
    ·split at hb
     ·exact List.mem_of_mem_tail hb
     ·exact hb
   exact Gd k oM hb' j h1 oM
theorem KJ:∀k,k<=l.length->(At (l.take k)).length<=k
 |0,_=>Nat.le_refl _
 |k+1,hk=>by
  have ih:=KJ k oM;rw[CO oM];split
  ·rw[List.length_cons];omega
  ·split
   ·rw[List.length_tail];omega
   ·omega
theorem B7{b e:Nat}(h:AI l b e):∃he:e<l.length,∃S,At (l.take e)=b::S/\b<e/\At (l.take b)=S/\At (l.take (e+1))=S:=by
 obtain⟨he,o,hd⟩:=h;cases hs:At (l.take e)with
 |nil=>rw[hs]at hd;cases hd
 |cons b' S=>
  rw[hs]at hd;simp only[List.head?_cons,Option.some.injEq]at hd;subst hd;obtain⟨g1,g2⟩:=D7 e oM b' S hs;refine⟨he,S,rfl,g1,g2,?_⟩;rw[CO he,if_neg oM,if_pos o,hs];rfl
theorem I8{b e:Nat}(h:AI l b e){j:Nat}(h1:b<j)(h2:j<=e):b∈At (l.take j):=by
 obtain⟨he,S,hs,-⟩:=B7 h;exact Gd e oM (by rw[hs];simp) j h1 h2
theorem Me{b e k:Nat}(h:AI l b e)(hk:k<=l.length)(hb:b∈At (l.take k)):k<=e:=by
 obtain⟨he,S,hs,g1,g2,g3⟩:=B7 h;rcases Nat.lt_or_ge e k with c|c
 ·have h9:=Gd k hk hb (e+1) oM c;rw[g3,←g2]at h9;have:=Gc (l:=l) (k:=b) oM h9;omega
 ·exact c
theorem FP{b e b' e':Nat}(h:AI l b e)(h':AI l b' e')(h1:b<b')(h2:b'<e):e'<e:=by
 obtain⟨he,S,hs,g1,g2,g3⟩:=B7 h;rcases Nat.lt_trichotomy e e' with c|c|c
 ·have h9:=I8 h' h2 oM;rw[hs]at h9;rcases List.mem_cons.1 h9 with q|q
  ·omega
  ·rw[←g2]at q;have:=Gc (l:=l) (k:=b) oM q;omega
 ·subst c;obtain⟨_,S',hs',-⟩:=B7 h';rw[hs]at hs';simp only[List.cons.injEq]at hs';omega
 ·exact c
theorem I9{b e b' e':Nat}(h:AI l b e)(h':AI l b' e'):b'≠e:=fun w=>by
 subst w;obtain⟨hb,hk,o1,o2⟩:=Bp h;obtain⟨hb2,hk2,o3,o4⟩:=Bp h';omega
theorem IS{k m m':Nat}(h:m∈AC l k l.length)(h':m'∈AC l m l.length):m'∈AC l k l.length:=by
 rw[Ca _ (Nat.le_refl _)]at h h' ⊢;obtain⟨b,e,h1,h2,h3,h4,h5⟩:=h;obtain⟨b',e',g1,g2,g3,g4,g5⟩:=h';obtain⟨_,_,_,l1,_⟩:=B7 h2;obtain⟨_,_,_,l2,_⟩:=B7 g2;have n1:=I9 h2 g2;have n2:=I9 g2 h2;refine⟨b',e',g1,g2,?_,?_,g5⟩
 ·rcases Nat.lt_or_ge b b' with c|c
  ·rcases h5 with q|q
   ·omega
   ·subst q;have:=FP h2 g2 c oM;omega
  ·omega
 ·rcases Nat.lt_or_ge e' e with c|c
  ·rcases h5 with q|q
   ·subst q;rcases Nat.lt_or_ge b' m with d|d
    ·have:=FP g2 h2 d oM;omega
    ·have e1:b'=m:=oM;subst e1;have:=CV g2 h2;omega
   ·omega
  ·omega
theorem JE{k m:Nat}(hk:k<l.length)(n:Nd l k)(h:m∈AC l k l.length):m<l.length/\Nd l m:=by
 rw[Ca _ (Nat.le_refl _)]at h;obtain⟨b,e,h1,h2,h3,h4,h5⟩:=h;obtain⟨he,S,hs,g1,g2,g3⟩:=B7 h2;obtain⟨_,o,hd⟩:=h2;have hm:AI l b e:=⟨he,o,hd⟩
 have both:Nd l b/\Nd l e:=by
  by_cases e1:k=e
  ·subst e1;exact⟨.begE he n o hd,n⟩
  ·have nb:Nd l b:=by
    by_cases e2:k=b
    ·subst e2;exact n
    ·have hin:=I8 hm (j:=k) oM oM;refine .beg hk n ?_;split
     ·rename_i o';cases hq:At (l.take k)with
      |nil=>rw[hq]at hin;cases hin
      |cons b0 S0=>
       rw[hq]at hin;rcases List.mem_cons.1 hin with q|q
       ·exfalso;have:AI l b k:=⟨hk,o',by rw[hq,q];rfl⟩
        exact e1 (CV this hm)
       ·exact q
     ·exact hin
   exact⟨nb,.fin he nb o hd⟩
 rcases h5 with q|q
 ·subst q;exact⟨oM,both.1⟩
 ·subst q;exact⟨he,both.2⟩
end
structure Rf where
 is:Nat->Bool
 reg:Nat->Bool
 slot:Nat->Bool
def CI(f:Nat->Bool)(x:Nat):Nat->Bool:=fun y=>if y=x then true else f y
theorem DZ(f:Nat->Bool)(x y:Nat):CI f x y=true↔f y=true\/y=x:=by
 unfold CI;split
 ·rename_i e;exact⟨fun _=>.inr e,fun _=>rfl⟩
 ·rename_i e;exact⟨fun h=>.inl h,fun h=>h.elim id fun q=>absurd q e⟩
def Em(f:Nat->Bool)(xs:List Nat):Nat->Bool:=xs.foldl CI f
theorem Fy(y:Nat):∀ (xs:List Nat) (f:Nat->Bool),Em f xs y=true↔f y=true\/y∈xs
 |[],f=>⟨fun h=>.inl h,fun h=>h.elim id fun q=>(by cases q)⟩
 |x::xs,f=>by
  show Em (CI f x) xs y=true↔_;rw[Fy y xs,DZ,List.mem_cons];exact Sw
theorem FY{f:Nat->Bool}{xs:List Nat}{j:Nat}(hj:j<xs.length):Em f (xs.take (j+1))=CI (Em f (xs.take j)) xs[j]:=by
 unfold Em;exact QC
def Dz(l:List Aa)(k:Nat):List Nat:=match l[k]? with
 |some i=>(A9 i (A4 i.op)).map Int.toNat
 |none=>[]
theorem F3{l:List Aa}{k:Nat}(hk:k<l.length):Dz l k=(A9 l[k] (A4 l[k].op)).map Int.toNat:=by unfold Dz;rw[List.getElem?_eq_getElem hk]
def I7(l:List Aa)(s:Rf)(m:Nat):Rf:=⟨CI s.is m,Em s.reg (Dz l m),s.slot⟩
def Bx(l:List Aa)(s:Rf)(ms:List Nat):Rf:=ms.foldl (I7 l) s
theorem Ja{l:List Aa}{s:Rf}{ms:List Nat}{j:Nat}(hj:j<ms.length):Bx l s (ms.take (j+1))=I7 l (Bx l s (ms.take j)) ms[j]:=by
 unfold Bx;exact QC
theorem Dc(l:List Aa):∀ (ms:List Nat) (s:Rf),(∀y,(Bx l s ms).is y=true↔s.is y=true\/y∈ms)/\(∀y,(Bx l s ms).reg y=true↔s.reg y=true\/∃m∈ms,y∈Dz l m)/\(Bx l s ms).slot=s.slot
 |[],s=>⟨fun y=>⟨fun h=>.inl h,fun h=>h.elim id fun q=>(by cases q)⟩,fun y=>⟨fun h=>.inl h,fun h=>h.elim id fun⟨_,q,_⟩=>(by cases q)⟩,rfl⟩
 |m::ms,s=>by
  obtain⟨h1,h2,h3⟩:=Dc l ms (I7 l s m);refine⟨fun y=>?_,fun y=>?_,h3⟩
  ·show(Bx l (I7 l s m) ms).is y=true↔_;rw[h1];show(CI s.is m y=true\/y∈ms)↔_;rw[DZ,List.mem_cons,or_assoc]
  ·show(Bx l (I7 l s m) ms).reg y=true↔_;rw[h2];show(Em s.reg (Dz l m) y=true\/_)↔_;rw[Fy,or_assoc];simp only[List.mem_cons,exists_eq_or_imp]
def Ci(s:Rf)(k:Nat)(i:Aa):Bool:= !(s.is k)&&(decide (i.op=31)||(Ad i&&s.reg i.d.toNat)||(decide (i.op=33)&&s.slot i.n.toNat))
def C5(l:List Aa)(s:Rf)(k:Nat)(i:Aa):Rf:=
 ⟨(Bx l ⟨CI s.is k,s.reg,s.slot⟩ (AC l k l.length)).is,Em (Bx l ⟨CI s.is k,s.reg,s.slot⟩ (AC l k l.length)).reg (Dz l k),if i.op=32 then CI s.slot i.n.toNat else s.slot⟩
structure RI(l:List Aa)(s:Rf):Prop where
 snd:∀k,s.is k=true->k<l.length/\Nd l k
 rg:∀r,s.reg r=true->∃k,∃hk:k<l.length,Nd l k/\r∈Dz l k
 sl:∀n,s.slot n=true->∃k,∃hk:k<l.length,Nd l k/\l[k].op=32/\l[k].n.toNat=n
 mks:∀k,s.is k=true->∀m∈AC l k l.length,s.is m=true
 rd:∀k,s.is k=true->∀r∈Dz l k,s.reg r=true
 ld:∀k (hk:k<l.length),s.is k=true->l[k].op=32->s.slot l[k].n.toNat=true
theorem RI.zero(l:List Aa):RI l ⟨fun _=>false,fun _=>false,fun _=>false⟩:=⟨fun _ h=>Ho,fun _ h=>Ho,fun _ h=>Ho,fun _ h=>Ho,fun _ h=>Ho,fun _ _ h=>Ho⟩
theorem RI.found{c:Cd}(hc:(Ah c).1=0){s:Rf}(h:RI c.list s){k:Nat}(hk:k<c.list.length)(w:Ci s k c.list[k]=true):RI c.list (C5 c.list s k c.list[k]):=by
 have hn:Nd c.list k:=by
  unfold Ci at w;simp only[Bool.and_eq_true,Bool.or_eq_true,decide_eq_true_eq]at w;obtain⟨-,(o|⟨h1,h2⟩)|⟨o,h2⟩⟩:=w
  ·exact .out hk o
  ·obtain⟨k',hk',n',hr⟩:=h.rg _ h2;rw[F3 hk',List.mem_map]at hr;obtain⟨r,hr1,hr2⟩:=hr;exact .set hk' hk n' r hr1 h1 hr2.symm
  ·obtain⟨k',hk',n',o',e⟩:=h.sl _ h2;exact .store hk' hk n' o' o (Gb hc k k' hk hk' o o' e.symm)
 obtain⟨m1,m2,m3⟩:=Dc c.list (AC c.list k c.list.length) ⟨CI s.is k,s.reg,s.slot⟩;have is1:∀y,(C5 c.list s k c.list[k]).is y=true↔(s.is y=true\/y=k)\/y∈AC c.list k c.list.length:=fun y=>by
  refine(m1 y).trans ?_;show(CI s.is k y=true\/_)↔_;rw[DZ]
 have rg1:∀y,(C5 c.list s k c.list[k]).reg y=true↔(s.reg y=true\/∃m∈AC c.list k c.list.length,y∈Dz c.list m)\/y∈Dz c.list k:=fun y=>by
  show Em _ _ y=true↔_;rw[Fy,m2]
 have sl1:∀y,(C5 c.list s k c.list[k]).slot y=true↔s.slot y=true\/(c.list[k].op=32/\y=c.list[k].n.toNat):=fun y=>by
  show(if c.list[k].op=32 then CI s.slot c.list[k].n.toNat else s.slot) y=true↔_;split
  ·rename_i o;rw[DZ];exact⟨fun q=>q.imp id fun e=>⟨o,e⟩,fun q=>q.imp id fun e=>e.2⟩
  ·rename_i o;exact⟨fun q=>.inl q,fun q=>q.elim id fun e=>absurd e.1 o⟩
 refine⟨fun y hy=>?_,fun r hr=>?_,fun n hs=>?_,fun y hy m hm=>?_,fun y hy r hr=>?_,fun y hyl hy o=>?_⟩
 ·rcases(is1 y).1 hy with(q|q)|q
  ·exact h.snd y q
  ·subst q;exact⟨hk,hn⟩
  ·exact JE hk hn q
 ·rcases(rg1 r).1 hr with(q|⟨m,q1,q2⟩)|q
  ·exact h.rg r q
  ·obtain⟨g1,g2⟩:=JE hk hn q1;exact⟨m,g1,g2,q2⟩
  ·exact⟨k,hk,hn,q⟩
 ·rcases(sl1 n).1 hs with q|⟨o,q⟩
  ·exact h.sl n q
  ·exact⟨k,hk,hn,o,q.symm⟩
 ·rcases(is1 y).1 hy with(q|q)|q
  ·exact(is1 m).2 (.inl (.inl (h.mks y q m hm)))
  ·subst q;exact(is1 m).2 (.inr hm)
  ·exact(is1 m).2 (.inr (IS q hm))
 ·rcases(is1 y).1 hy with(q|q)|q
  ·exact(rg1 r).2 (.inl (.inl (h.rd y q r hr)))
  ·subst q;exact(rg1 r).2 (.inr hr)
  ·exact(rg1 r).2 (.inl (.inr ⟨y,q,hr⟩))
 ·rcases(is1 y).1 hy with(q|q)|q
  ·exact(sl1 _).2 (.inl (h.ld y hyl q o))
  ·subst q;exact(sl1 _).2 (.inr ⟨o,rfl⟩)
  ·exfalso;rw[Ca _ (Nat.le_refl _)]at q;obtain⟨b,e,h1,h2,h3,h4,h5⟩:=q;obtain⟨hb2,hk2,o3,o4⟩:=Bp h2;rcases h5 with w|w<;>(subst w;omega)
theorem RI.done{c:Cd}(hc:(Ah c).1=0){s:Rf}(h:RI c.list s)(hw:∀k (hk:k<c.list.length),Ci s k c.list[k]=false)(k:Nat):s.is k=ndK c.list k:=by
 have main:∀k,Nd c.list k->s.is k=true:=fun k n=>by
  have want:∀k (hk:k<c.list.length),(c.list[k].op=31\/(Ad c.list[k]=true/\s.reg c.list[k].d.toNat=true)\/(c.list[k].op=33/\s.slot c.list[k].n.toNat=true))->s.is k=true:=fun k hk q=>by
   have h9:=hw k hk;unfold Ci at h9;cases e:s.is k with
   |true=>rfl
   |false=>
    rw[e]at h9;simp only[Bool.not_false,Bool.true_and,Bool.or_eq_false_iff,decide_eq_false_iff_not,Bool.and_eq_false_iff]at h9;obtain⟨⟨a1,a2⟩,a3⟩:=h9;rcases q with q|⟨q1,q2⟩|⟨q1,q2⟩
    ·exact absurd q a1
    ·rcases a2 with a2|a2
     ·rw[q1]at a2;cases a2
     ·rw[q2]at a2;cases a2
    ·rcases a3 with a3|a3
     ·exact absurd q1 a3
     ·rw[q2]at a3;cases a3
  induction n with
  |out hk o=>exact want _ hk (.inl o)
  |set hk hj n r hr hs e ih=>
   refine want _ hj (.inr (.inl ⟨hs,?_⟩));rw[e];exact h.rd _ ih _ (by rw[F3 hk];exact List.mem_map.2 ⟨r,hr,rfl⟩)
  |store hk hj n h1 h2 e ih=>
   refine want _ hj (.inr (.inr ⟨h2,?_⟩));rw[e];exact h.ld _ hk ih h1
  |@beg k b hk n hb ih=>
   have hin:=Dd hk hb;obtain⟨e,he⟩:=FO (Hl hc) _ k rfl oM hin;have h1:=Me he oM hin;have h2:=Gc (Nat.le_of_lt hk) hin;exact h.mks _ ih _ ((Ca _ (Nat.le_refl _)).2 ⟨b,e,he.1,he,oM,h1,.inl rfl⟩)
  |@fin k b hk n hf hb ih=>
   have he:AI c.list b k:=⟨hk,hf,hb⟩
   obtain⟨_,_,_,h1,_⟩:=B7 he;exact h.mks _ ih _ ((Ca _ (Nat.le_refl _)).2 ⟨b,k,hk,he,oM,oM,.inr rfl⟩)
  |@begE k b hk n hf hb ih=>
   have he:AI c.list b k:=⟨hk,hf,hb⟩
   obtain⟨_,_,_,h1,_⟩:=B7 he;exact h.mks _ ih _ ((Ca _ (Nat.le_refl _)).2 ⟨b,k,hk,he,oM,oM,.inl rfl⟩)
 cases e:ndK c.list k with
 |true=>exact main k (B0.1 e)
 |false=>
  cases e2:s.is k with
  |false=>rfl
  |true=>exact absurd (h.snd k e2).2 (DX.1 e)
def Bv(L:Nat)(s:Rf):Nat:=((List.range L).filter fun k=> !(s.is k)).length
theorem JG(f g:Nat->Bool)(h:∀k,g k=true->f k=true):∀n,((List.range n).filter g).length<=((List.range n).filter f).length
 |0=>Nat.le_refl _
 |n+1=>by
  have ih:=JG f g h n;rw[List.range_succ,List.filter_append,List.filter_append,List.length_append,List.length_append];exact SQ
theorem JH(f g:Nat->Bool)(h:∀k,g k=true->f k=true){p:Nat}(h1:f p=true)(h2:g p=false):∀n,p<n->((List.range n).filter g).length<((List.range n).filter f).length
 |0,hp=>by omega
 |n+1,hp=>by
  rw[List.range_succ,List.filter_append,List.filter_append,List.length_append,List.length_append];by_cases e:p=n
  ·subst e;have:=JG f g h p;simp only[List.filter_cons,h1,h2,if_true,List.filter_nil];simp;omega
  ·have ih:=JH f g h h1 h2 n oM;exact SQ
theorem I2{l:List Aa}{s:Rf}{k:Nat}{i:Aa}(y:Nat):(C5 l s k i).is y=true↔(s.is y=true\/y=k)\/y∈AC l k l.length:=by
 obtain⟨m1,-,-⟩:=Dc l (AC l k l.length) ⟨CI s.is k,s.reg,s.slot⟩;refine(m1 y).trans ?_;show(CI s.is k y=true\/_)↔_;rw[DZ]
theorem Ei{l:List Aa}{s:Rf}{k:Nat}{i:Aa}(hk:k<l.length)(w:Ci s k i=true):Bv l.length (C5 l s k i)<Bv l.length s:=by
 have hn:s.is k=false:=by
  unfold Ci at w;cases e:s.is k with
  |false=>rfl
  |true=>rw[e]at w;simp at w
 refine JH _ _ (fun y hy=>?_) (p:=k) (by rw[hn];rfl) (by rw[(I2 k).2 (.inl (.inr rfl))];rfl) _ hk;cases e:s.is y with
 |false=>rfl
 |true=>rw[(I2 y).2 (.inl (.inl e))]at hy;cases hy
def EB(p:Nat->Bool)(r:Nat):Int:=if p r=true then(Ak p r:Int)else -1
theorem L7(p:Nat->Bool)(r:Nat):Ak p (r+1)=if p r=true then Ak p r+1 else Ak p r:=by
 unfold Ak;rw[List.range_succ,List.filter_append,List.length_append];cases e:p r with
 |true=>simp[e]
 |false=>simp[e]
end Go.Proofs.Ytnbccaicijcklaa
