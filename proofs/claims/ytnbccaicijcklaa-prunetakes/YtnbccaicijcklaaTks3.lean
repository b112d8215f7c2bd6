import Derived.Test.YtnbccaicijcklaaTks1
import Ieee.Arith
import Derived.Laws.FloatBits
import Derived.Below
namespace Go.Proofs.Ytnbccaicijcklaa
open Go.RowKit Go.Proofs.Try
set_option linter.all false
set_option maxRecDepth 100000
set_option maxHeartbeats 16000000
theorem DJ(s:ByteArray):(s.toList==[])=(s.size==0):=by
 rw[Bool.eq_iff_iff];simp only[beq_iff_eq];constructor
 ·intro h;rw[ByteArray.toList_eq]at h;show s.data.size=0;rw[←Array.length_toList,h];rfl
 ·intro h;rw[ByteArray.toList_eq];exact List.eq_nil_of_length_eq_zero (by rw[Array.length_toList];exact h)
theorem Cn(s:ByteArray):s.toList.isEmpty=(s.size==0):=by
 rw[←DJ,Bool.eq_iff_iff];simp
theorem Gx{s:ByteArray}{j:Nat}(h:j<s.size)(hq:ES (s[j].toNat:Int)=false):Bg s=false:=by
 unfold Bg;have:((bs s).all fun b=>ES (nb b))=false:=by
  rw[List.all_eq_false];exact⟨s[j],by unfold bs;exact Array.mem_toList_iff.2 (Array.getElem_mem (xs:=s.data) h),by simp[nb,hq]⟩
 rw[this,Bool.and_false]
theorem Jc{s:ByteArray}(h0:s.size≠0)(h1:s.size<=64)(h:∀j (h:j<s.size),ES (s[j].toNat:Int)=true):Bg s=true:=by
 unfold Bg;have:((bs s).all fun b=>ES (nb b))=true:=by
  rw[List.all_eq_true];intro b hb;obtain⟨j,hj,rfl⟩:=List.mem_iff_getElem.1 hb;exact h j (by rw[←KX];exact hj)
 rw[this];simp[h0,h1]
theorem Jp(s:ByteArray)(hs:s.size<=140737488351232)(w:World):
 Calls prog 65 #[.string s] w fun e w'=>e=.returned (.bool (Bg s))/\w'=w:=by
 by_cases h0:s.size=0
 ·have he:s.toList.isEmpty=true:=by rw[Cn];simp[h0]
  have he2:(s.toList==[])=true:=by rw[DJ];simp[h0]
  have hf:Bg s=false:=by unfold Bg;simp[h0]
  rw[hf];go_enter func65,ntmps65;go_wp2
  all_goals(go_ret;exact⟨rfl,rfl⟩)
 ·have he:s.toList.isEmpty=false:=by rw[Cn];simp[h0]
  have he2:(s.toList==[])=false:=by rw[DJ];simp[h0]
  by_cases h64:s.size<=64
  ·have h64':¬ ((64:Int)<(s.size:Int)):=oM;go_enter func65,ntmps65;go_wp2
   go_loopw [3] (fun iv wr=>wr=w/\∃j:Nat,j<=s.size/\iv=.int .i64 j/\Hid (∀i (h:i<s.size),i<j->ES (s[i].toNat:Int)=true)) (fun iv _=>s.size-(intOf iv).toNat)
   case atStart=>exact⟨rfl,0,Nat.zero_le _,rfl,fun i h hi=>absurd hi (Nat.not_lt_zero _)⟩
   case round=>
    obtain⟨rfl,j,hj,rfl,hp⟩:=hrel;by_cases hlt:j<s.size
    ·have i1:(0:Int)<=(j:Int):=oM;have i2:(j:Int)<(s.size:Int):=oM;have NX:Hid (ES (s[j].toNat:Int)=true->∀i (h:i<s.size),i<j+1->ES (s[i].toNat:Int)=true):=fun hq i h hi=>by
      exact Pp
     have NB:Hid (ES (s[j].toNat:Int)=false->Bg s=false):=fun h=>Gx hlt h;go_upto_region 7 with(fail)
     obtain⟨c,hc⟩:∃c:Int,(s[j].toNat:Int)=c:=⟨_,rfl⟩
     have hc2:0<=c/\c<=255:=by have:=s[j].toNat_lt;omega
     rw[hc]at NX NB ⊢;clear hc;go_cut [59] (fun cv wx=>cv=.bool (!ES c)/\wx=wr)
     case first=>
      have hcl:(0<=c/\c<=44)\/(c=45)\/(c=46)\/(c=47)\/(48<=c/\c<=57)\/(58<=c/\c<=64)\/(65<=c/\c<=90)\/(91<=c/\c<=94)\/(c=95)\/(c=96)\/(97<=c/\c<=122)\/(123<=c/\c<=255):=oM;rcases hcl with h|h|h|h|h|h|h|h|h|h|h|h
      ·have f97:¬ (97:Int)<=c:=oM;have f65:¬ (65:Int)<=c:=oM;have f48:¬ (48:Int)<=c:=oM;have g122:c<=(122:Int):=oM;have g90:c<=(90:Int):=oM;have g57:c<=(57:Int):=oM;exact Q2
      ·have f97:¬ (97:Int)<=c:=oM;have f65:¬ (65:Int)<=c:=oM;have f48:¬ (48:Int)<=c:=oM;have g122:c<=(122:Int):=oM;have g90:c<=(90:Int):=oM;have g57:c<=(57:Int):=oM;have e95:(c==(95:Int))=false:=by rw[beq_eq_false_iff_ne];omega
       have e46:(c==(46:Int))=false:=by rw[beq_eq_false_iff_ne];omega
       have e47:(c==(47:Int))=false:=by rw[beq_eq_false_iff_ne];omega
       have e45:(c==(45:Int))=true:=sO;have hp2:ES c=true:=by unfold ES;simp[*]
       clear h hp NX NB;go_wp2;go_meet;exact⟨by rw[hp2];rfl,rfl⟩
      ·have f97:¬ (97:Int)<=c:=oM;have f65:¬ (65:Int)<=c:=oM;have f48:¬ (48:Int)<=c:=oM;have g122:c<=(122:Int):=oM;have g90:c<=(90:Int):=oM;have g57:c<=(57:Int):=oM;have e95:(c==(95:Int))=false:=by rw[beq_eq_false_iff_ne];omega
       have e46:(c==(46:Int))=true:=sO;exact Q3
      ·have f97:¬ (97:Int)<=c:=oM;have f65:¬ (65:Int)<=c:=oM;have f48:¬ (48:Int)<=c:=oM;have g122:c<=(122:Int):=oM;have g90:c<=(90:Int):=oM;have g57:c<=(57:Int):=oM;have e95:(c==(95:Int))=false:=by rw[beq_eq_false_iff_ne];omega
       have e46:(c==(46:Int))=false:=by rw[beq_eq_false_iff_ne];omega
       have e47:(c==(47:Int))=true:=sO;have e45:(c==(45:Int))=false:=by rw[beq_eq_false_iff_ne];omega
       have hp2:ES c=true:=by unfold ES;simp[*]
       clear h hp NX NB;go_wp2;go_meet;exact⟨by rw[hp2];rfl,rfl⟩
      ·have f97:¬ (97:Int)<=c:=oM;have f65:¬ (65:Int)<=c:=oM;have f48:(48:Int)<=c:=oM;have g122:c<=(122:Int):=oM;have g90:c<=(90:Int):=oM;have g57:c<=(57:Int):=oM;have e95:(c==(95:Int))=false:=by rw[beq_eq_false_iff_ne];omega
       have e46:(c==(46:Int))=false:=by rw[beq_eq_false_iff_ne];omega
       exact Q3
      ·have f97:¬ (97:Int)<=c:=oM;have f65:¬ (65:Int)<=c:=oM;have f48:(48:Int)<=c:=oM;have g122:c<=(122:Int):=oM;have g90:c<=(90:Int):=oM;have g57:¬c<=(57:Int):=oM;exact Q2
      ·have f97:¬ (97:Int)<=c:=oM;have f65:(65:Int)<=c:=oM;have f48:(48:Int)<=c:=oM;have g122:c<=(122:Int):=oM;have g90:c<=(90:Int):=oM;have g57:¬c<=(57:Int):=oM;have e95:(c==(95:Int))=false:=by rw[beq_eq_false_iff_ne];omega
       have e46:(c==(46:Int))=false:=by rw[beq_eq_false_iff_ne];omega
       exact Q3
      ·have f97:¬ (97:Int)<=c:=oM;have f65:(65:Int)<=c:=oM;have f48:(48:Int)<=c:=oM;have g122:c<=(122:Int):=oM;have g90:¬c<=(90:Int):=oM;have g57:¬c<=(57:Int):=oM;exact Q2
      ·have f97:¬ (97:Int)<=c:=oM;have f65:(65:Int)<=c:=oM;have f48:(48:Int)<=c:=oM;have g122:c<=(122:Int):=oM;have g90:¬c<=(90:Int):=oM;have g57:¬c<=(57:Int):=oM;have e95:(c==(95:Int))=true:=sO;have e46:(c==(46:Int))=false:=by rw[beq_eq_false_iff_ne];omega
       exact Q3
      ·have f97:¬ (97:Int)<=c:=oM;have f65:(65:Int)<=c:=oM;have f48:(48:Int)<=c:=oM;have g122:c<=(122:Int):=oM;have g90:¬c<=(90:Int):=oM;have g57:¬c<=(57:Int):=oM;exact Q2
      ·have f97:(97:Int)<=c:=oM;have f65:(65:Int)<=c:=oM;have f48:(48:Int)<=c:=oM;have g122:c<=(122:Int):=oM;have g90:¬c<=(90:Int):=oM;have g57:¬c<=(57:Int):=oM;have e95:(c==(95:Int))=false:=by rw[beq_eq_false_iff_ne];omega
       have e46:(c==(46:Int))=false:=by rw[beq_eq_false_iff_ne];omega
       exact Q3
      ·have f97:(97:Int)<=c:=oM;have f65:(65:Int)<=c:=oM;have f48:(48:Int)<=c:=oM;have g122:¬c<=(122:Int):=oM;have g90:¬c<=(90:Int):=oM;have g57:¬c<=(57:Int):=oM;exact Q2
     case rest=>
      obtain⟨rfl,rfl⟩:=hcut;cases hq:ES c
      ·have HB2:Hid (Bg s=false):=NB.out hq;clear NX NB hp hc2;go_wp2;go_ret;exact⟨A8 HB2.out.symm,rfl⟩
      ·have HP2:Hid (∀i (h:i<s.size),i<j+1->ES (s[i].toNat:Int)=true):=NX.out hq;clear NX NB hp hc2;go_wp2;go_roundw
       case rel=>exact⟨by trivial,j+1,oM,gN,HP2.out⟩
       case measure=>simp[intOf];omega
    ·exact SC
  ·have hf:Bg s=false:=by unfold Bg;simp[h0,h64]
   have h64':(64:Int)<(s.size:Int):=oM;rw[hf];go_enter func65,ntmps65;go_wp2
   all_goals(go_ret;exact⟨rfl,rfl⟩)
theorem GZ(p:Bt):Bl p=((Bg p.name&&(p.kind==1||p.kind==2))&&(decide (1<=p.len)&&decide (p.len<=4096))):=rfl
theorem Ik(p:Bt)(hs:p.name.size<=140737488351232)(w:World):
 Calls prog 46 #[pv p] w fun e w'=>e=.returned (.bool (Bl p))/\Below w.heap.size w w':=by
 rw[GZ];obtain⟨X,K,L⟩:=p;unfold pv;have KN:=Jp X hs;simp only;obtain⟨N,hN⟩:∃N,Bg X=N:=⟨_,rfl⟩
 rw[hN]at KN ⊢;have HK:Hid (∀w,Calls prog 65 #[.string X] w fun e w'=>e=.returned (.bool N)/\w'=w):=KN;clear KN hN;cases N
 ·go_enter func46,ntmps46;go_wp2_with(go_at_call 65;refine(HK.out _).mono ?_;rintro e w1 ⟨rfl,rfl⟩);go_ret;exact⟨rfl,A0 _ _⟩
 ·have hk:((K==1)=true/\(K==2)=false)\/((K==1)=false/\(K==2)=true)\/((K==1)=false/\(K==2)=false):=by
   exact Sv
  have hL:(1<=L/\L<=4096)\/(¬1<=L/\L<=4096)\/(1<=L/\¬L<=4096):=oM;rcases hk with⟨h1,h2⟩|⟨h1,h2⟩|⟨h1,h2⟩<;>rcases hL with⟨h3,h4⟩|⟨h3,h4⟩|⟨h3,h4⟩
  all_goals
   go_enter func46,ntmps46;go_wp2_with(go_at_call 65;refine(HK.out _).mono ?_;rintro e w1 ⟨rfl,rfl⟩);go_ret;exact⟨A8 (by simp[h1,h2,h3,h4]),A0 _ _⟩
theorem Hf(p:Bt)(hs:p.name.size<=140737488351232)(w:World):
 Calls prog 66 #[pv p] w fun e w'=>e=.returned (.int .i64 (Ej p))/\Below w.heap.size w w':=by
 have KM:=Ik p hs;have hm:Bl p=true->1<=p.len/\p.len<=4096:=fun h=>by rw[GZ]at h;simp at h;exact h.2
 have hn:Ej p=if Bl p then(if p.kind==2 then 2*p.len else p.len)else 0:=rfl;rw[hn];clear hn;obtain⟨N,hN⟩:∃N,Bl p=N:=⟨_,rfl⟩
 rw[hN]at KM hm ⊢;clear hN hs;obtain⟨X,K,L⟩:=p;unfold pv at KM ⊢;simp only at hm KM ⊢;have HK:Hid (∀w,Calls prog 46 #[.agg #[.string X,.int .i64 K,.int .i64 L]] w fun e w'=>e=.returned (.bool N)/\Below w.heap.size w w'):=KM;clear KM;cases N
 ·clear hm;go_enter func66,ntmps66;go_wp2_with(go_at_call 46;refine(HK.out _).mono ?_;rintro e w1 ⟨rfl,hb1⟩);exact QG
 ·have hL:=hm rfl;clear hm;cases h2:(K==2)
  ·go_enter func66,ntmps66;go_wp2_with(go_at_call 46;refine(HK.out _).mono ?_;rintro e w1 ⟨rfl,hb1⟩;have c1:w1.cell? ⟨w.heap.size,1,none⟩=some (.int .i64 K):=(hb1.cell sM).trans sG;have c2:w1.cell? ⟨w.heap.size,2,none⟩=some (.int .i64 L):=(hb1.cell sM).trans sG);exact QG
  ·go_enter func66,ntmps66;go_wp2_with(go_at_call 46;refine(HK.out _).mono ?_;rintro e w1 ⟨rfl,hb1⟩;have c1:w1.cell? ⟨w.heap.size,1,none⟩=some (.int .i64 K):=(hb1.cell sM).trans sG;have c2:w1.cell? ⟨w.heap.size,2,none⟩=some (.int .i64 L):=(hb1.cell sM).trans sG);go_ret;exact⟨Dk sM,bel (A0 _ _) hb1⟩
theorem IT{a b:ByteArray}(h:(a.toList==b.toList)=true):a=b:=by
 rw[beq_iff_eq,ByteArray.toList_eq,ByteArray.toList_eq]at h;exact LZ h
theorem Ou{a b:ByteArray}(h:a=b):(a.toList==b.toList)=true:=by rw[h];simp
theorem Ov{a b:ByteArray}(h:a≠b):(a.toList==b.toList)=false:=by
 cases e:(a.toList==b.toList)
 ·rfl
 ·exact absurd (IT e) h
theorem Lu(v:Value)(l:List Bt)(hl:l.length<=140737488351232)(s:ByteArray)(w:World)(hr:Rd w v l):
 Calls prog 47 #[v,.string s] w fun e w'=>e=.returned (.tuple #[.int .i64 ((AK s l).getD 0:Nat),.bool (AK s l).isSome])/\w'=w:=by
 obtain⟨p,c,rfl,hr⟩:=hr;obtain⟨n,hn⟩:∃n,l.length=n:=⟨_,rfl⟩
 rw[hn]at hl ⊢;have HN:Hid (l.length=n):=hn;have HR:Hid (LO w p l):=hr;clear hn hr;go_enter func47,ntmps47;go_wp2
 go_loopw [6] (fun iv wr=>wr=w/\∃j:Nat,j<=n/\iv=.int .i64 j/\Hid (∀i (h:i<l.length),i<j->l[i].name≠s)) (fun iv _=>n-(intOf iv).toNat)
 case atStart=>exact⟨rfl,0,Nat.zero_le _,rfl,fun i h hi=>absurd hi (Nat.not_lt_zero _)⟩
 case round=>
  obtain⟨rfl,j,hj,rfl,hp⟩:=hrel;by_cases hlt:j<n
  ·have hll:j<l.length:=by rw[HN.out];exact hlt
   obtain⟨b,o,rfl,x0,x1,x2⟩:=HR.out.at hll;have i1:(0:Int)<=(j:Int):=oM;have i2:(j:Int)<(n:Int):=oM;by_cases he:l[j].name=s
   ·have HF:Hid (AK s l=some j):=Gv hll he hp.out;have he':=Ou he;clear hp he;go_wp2
    go_ret2
    exact⟨by rw[HF.out];rfl,rfl⟩
   ·have HP2:Hid (∀i (h:i<l.length),i<j+1->l[i].name≠s):=fun i h hi=>by
     by_cases e:i=j
     ·subst e;exact he
     ·exact hp.out i h oM
    have he':=Ov he;clear hp he;go_wp2;go_roundw
    case rel=>exact⟨by trivial,j+1,oM,gN,HP2.out⟩
    case measure=>simp[intOf];omega
  ·have:j=n:=oM;subst this;have HF:Hid (AK s l=none):=Gu fun i h=>hp.out i h (by rw[←HN.out];exact h);clear hp;go_wp2
   go_ret2
   exact⟨by rw[HF.out];rfl,rfl⟩
theorem Jm(v:Value)(l:List Bt)(hl:l.length<=140737488351232)(hM:∀p∈l,p.name.size<=140737488351232)(w:World)(hr:Rd w v l):
 Calls prog 48 #[v] w fun e w'=>e=.returned (.int .i64 (BO l))/\Below w.heap.size w w':=by
 obtain⟨p,c,rfl,hr⟩:=hr;obtain⟨n,hn⟩:∃n,l.length=n:=⟨_,rfl⟩
 rw[hn]at hl ⊢;have HN:Hid (l.length=n):=hn;have HR:Hid (LO w p l):=hr;have HM:Hid (∀p∈l,p.name.size<=140737488351232):=hM;clear hn hr hM;go_enter func48,ntmps48;go_wp2
 go_loopw [3,4] (fun tv iv wr=>Below w.heap.size w wr/\∃j:Nat,j<=n/\iv=.int .i64 j/\tv=.int .i64 (BO (l.take j))) (fun _ iv _=>n-(intOf iv).toNat)
 case atStart=>exact⟨C9 w,0,Nat.zero_le _,rfl,rfl⟩
 case round=>
  obtain⟨hb,j,hj,rfl,rfl⟩:=hrel;by_cases hlt:j<n
  ·have hll:j<l.length:=by rw[HN.out];exact hlt
   obtain⟨b,o,rfl,hx⟩:=HR.out.at hll;obtain⟨x0,x1,x2⟩:=hx.below hb;have i1:(0:Int)<=(j:Int):=oM;have i2:(j:Int)<(n:Int):=oM;have KN:=Hf l[j] (HM.out _ (List.getElem_mem hll));unfold pv at KN;have HK:Hid (∀w,Calls prog 66 #[.agg #[.string l[j].name,.int .i64 l[j].kind,.int .i64 l[j].len]] w fun e w'=>e=.returned (.int .i64 (Ej l[j]))/\Below w.heap.size w w'):=KN;have ht:BO (l.take (j+1))=BO (l.take j)+Ej l[j]:=by rw[Fc hll,ID]
   have hb1:=Ev (l.take j);have hb2:=Ek l[j];rw[List.length_take,HN.out,Nat.min_eq_left hj]at hb1;obtain⟨T,hT⟩:∃T,BO (l.take j)=T:=⟨_,rfl⟩
   obtain⟨U,hU⟩:∃U,Ej l[j]=U:=⟨_,rfl⟩
   rw[hT,hU]at ht;rw[hT]at hb1 ⊢;rw[hU]at hb2 HK;have HT:Hid (BO (l.take (j+1))=T+U):=ht;have hw1:IntKind.i64.wrap (T+U)=T+U:=by rw[IntKind.wrap_i64];omega
   clear KN ht hT hU hx;go_wp2_with(go_at_call 66;refine(HK.out _).mono ?_;rintro e w1 ⟨rfl,hb3⟩);go_roundw
   case rel=>exact⟨bel hb hb3,j+1,oM,gN,by rw[HT.out]⟩
   case measure=>simp[intOf];omega
  ·exact St
def V(p k:Nat):Nat:=if k<2^p then k else(2^p+k%2^p)*2^(k/2^p-1)
def PR(p:Nat)(L:Int)(mag:Nat)(place:Int):Nat:=
 if mag=0 then 0 else
 (max (place+mag.log2-p) L-L).toNat*2^p+Ieee.Toward.even.cut false (mag<<<(place-max (place+mag.log2-p) L).toNat) (max (place+mag.log2-p) L-place).toNat
def ng(a:Nat):Bool:=a/2147483648%2==1
def rg(a:Nat):Nat:=a%2147483648
def mv(a:Nat):Nat:=V 23 (rg a)
def sg(s:Bool)(m:Nat):Int:=if s then -(m:Int)else m
def sv(a:Nat):Int:=sg (ng a) (mv a)
def wd(s:Bool)(r:Nat):Nat:=if s then 2147483648+min r 2139095040 else min r 2139095040
def R(n:Nat):Nat:=PR 23 (-149) n (-149)
theorem JI{s:ByteArray}:∀ {l:List Bt} {k:Nat},AK s l=some k->k<l.length/\∀h:k<l.length,l[k].name=s
 |[],k,h=>by cases h
 |p::r,k,h=>by
  simp only[AK]at h;split at h
  ·rename_i e;cases h
   exact⟨sM,fun _=>e⟩
  ·cases hf:AK s r with
   |none=>rw[hf]at h;cases h
   |some m=>
    rw[hf]at h;cases h
    obtain⟨h1,h2⟩:=JI hf;exact⟨by simp;exact h1,fun _=>by simp only[List.getElem_cons_succ];exact h2 h1⟩
theorem Fx{s:ByteArray}:∀ {l:List Bt} {i:Nat} (h:i<l.length),l[i].name=s->∃k,AK s l=some k/\k<=i
 |[],i,h,_=>absurd h (Nat.not_lt_zero _)
 |p::r,i,h,e=>by
  simp only[AK];split
  ·exact⟨0,rfl,Nat.zero_le _⟩
  ·rename_i hp;cases i with
   |zero=>exact absurd e hp
   |succ i=>
    obtain⟨k,hk,hki⟩:=Fx (l:=r) (i:=i) Q9 (by simpa using e);exact⟨k+1,by rw[hk];rfl,oM⟩
theorem NV{l:List Bt}{i:Nat}(h:i<l.length)(hk:(AK l[i].name l).getD 0≠i):Be l=true:=by
 obtain⟨k,hk1,hk2⟩:=Fx (l:=l) h rfl;rw[hk1]at hk;obtain⟨h1,h2⟩:=JI hk1;have hne:k≠i:=hk;exact Fe.2 ⟨i,k,h,h1,oM,h2 h1⟩
theorem OG{l:List Bt}(h:∀i (h:i<l.length),(AK l[i].name l).getD 0=i):Be l=false:=by
 cases ht:Be l
 ·rfl
 ·obtain⟨i,j,hi,hj,hji,e⟩:=Fe.1 ht;obtain⟨k,hk,hkj⟩:=Fx (s:=l[i].name) hj e;have:=h i hi;rw[hk]at this;have:k=i:=this;omega
theorem G4(v:Value)(l:List Bt)(hl:l.length<=140737488351232)(hM:∀p∈l,p.name.size<=140737488351232)(w:World)(hr:Rd w v l):
 Calls prog 31 #[v] w fun e w'=>e=.returned (.int .i64 (AU l))/\Below w.heap.size w w':=by
 have KT:Hid (∀w,Rd w v l->Calls prog 48 #[v] w fun e w'=>e=.returned (.int .i64 (BO l))/\Below w.heap.size w w'):=fun w h=>Jm v l hl hM w h;have KF:Hid (∀w s,Rd w v l->Calls prog 47 #[v,.string s] w fun e w'=>e=.returned (.tuple #[.int .i64 ((AK s l).getD 0:Nat),.bool (AK s l).isSome])/\w'=w):=fun w s h=>Lu v l hl s w h;have HRD:Hid (Rd w v l):=hr;obtain⟨p,c,rfl,hr⟩:=hr;obtain⟨n,hn⟩:∃n,l.length=n:=⟨_,rfl⟩
 have HN:Hid (l.length=n):=hn;have HR:Hid (LO w p l):=hr;have HM:Hid (∀p∈l,p.name.size<=140737488351232):=hM;have HC:Hid (AU l=if n>64 then 2 else if l.all Bl=false then 100 else if Be l then 101 else if BO l>65536 then 102 else 0):=by
  show _=_;unfold AU;rw[hn]
 rw[hn]at hl HRD KT KF ⊢;clear hn hr hM;by_cases h64:n<=64
 ·have h64':¬ (64:Int)<(n:Int):=oM;have hng:¬n>64:=oM;have HC2:Hid (AU l=if l.all Bl=false then 100 else if Be l then 101 else if BO l>65536 then 102 else 0):=by show _=_;rw[HC.out,if_neg hng]
  clear HC hng;go_enter func31,ntmps31;go_wp2
  go_loopw [3] (fun iv wr=>Below w.heap.size w wr/\∃j:Nat,j<=n/\iv=.int .i64 j/\Hid (∀i (h:i<l.length),i<j->Bl l[i]=true)) (fun iv _=>n-(intOf iv).toNat)
  case atStart=>exact⟨C9 w,0,Nat.zero_le _,rfl,fun i h hi=>absurd hi (Nat.not_lt_zero _)⟩
  case round=>
   obtain⟨hb,j,hj,rfl,hp⟩:=hrel;by_cases hlt:j<n
   ·have hll:j<l.length:=by rw[HN.out];exact hlt
    obtain⟨b,o,rfl,hx⟩:=HR.out.at hll;obtain⟨x0,x1,x2⟩:=hx.below hb;have i1:(0:Int)<=(j:Int):=oM;have i2:(j:Int)<(n:Int):=oM;have KM:=Ik l[j] (HM.out _ (List.getElem_mem hll));unfold pv at KM;have HA:Hid (Bl l[j]=false->l.all Bl=false):=fun h=>List.all_eq_false.2 ⟨l[j],List.getElem_mem hll,by rw[h];decide⟩;have HB:Hid (Bl l[j]=true->∀i (h:i<l.length),i<j+1->Bl l[i]=true):=fun hq i h hi=>by
     exact Pp
    obtain⟨M,hMM⟩:∃M,Bl l[j]=M:=⟨_,rfl⟩
    rw[hMM]at KM HA HB;have HK:Hid (∀w,Calls prog 46 #[.agg #[.string l[j].name,.int .i64 l[j].kind,.int .i64 l[j].len]] w fun e w'=>e=.returned (.bool M)/\Below w.heap.size w w'):=KM;clear KM hMM hx hp;cases M
    ·have HA2:Hid (AU l=100):=by show _=_;rw[HC2.out,if_pos (HA.out rfl)]
     clear HA HB;go_wp2_with(go_at_call 46;refine(HK.out _).mono ?_;rintro e w1 ⟨rfl,hb1⟩);go_ret;exact⟨Dk HA2.out.symm,bel hb hb1⟩
    ·have HB2:Hid (∀i (h:i<l.length),i<j+1->Bl l[i]=true):=HB.out rfl;clear HA HB;go_wp2_with(go_at_call 46;refine(HK.out _).mono ?_;rintro e w1 ⟨rfl,hb1⟩);go_roundw
     case rel=>exact⟨bel hb hb1,j+1,oM,gN,HB2.out⟩
     case measure=>simp[intOf];omega
   ·have:j=n:=oM;subst this;have hall:l.all Bl=true:=List.all_eq_true.2 fun q hq=>by
     obtain⟨i,hi,rfl⟩:=List.mem_iff_getElem.1 hq;exact QH
    have HC3:Hid (AU l=if Be l then 101 else if BO l>65536 then 102 else 0):=by show _=_;rw[HC2.out,if_neg (by rw[hall];decide)]
    clear hp hall HC2;go_wp2
    go_loopw [4] (fun iv wr=>Below w.heap.size w wr/\∃i:Nat,i<=j/\iv=.int .i64 i/\Hid (∀k (h:k<l.length),k<i->(AK l[k].name l).getD 0=k)) (fun iv _=>j-(intOf iv).toNat)
    case atStart=>exact⟨hb,0,Nat.zero_le _,rfl,fun i h hi=>absurd hi (Nat.not_lt_zero _)⟩
    case round=>
     obtain⟨hb',i,hi,rfl,hp⟩:=hrel;by_cases hlt':i<j
     ·have hll:i<l.length:=by rw[HN.out];exact hlt'
      obtain⟨b,o,rfl,hx⟩:=HR.out.at hll;obtain⟨x0,x1,x2⟩:=hx.below hb';have i1:(0:Int)<=(i:Int):=oM;have i2:(i:Int)<(j:Int):=oM;have K1:=KF.out _ l[i].name (HRD.out.below hb');have hlo:=Fx (l:=l) hll rfl;obtain⟨k0,hk0,hk1⟩:=hlo;have T1:=NV (l:=l) hll;rw[hk0]at K1 T1;have HP0:Hid ((AK l[i].name l).getD 0=k0):=by show _=_;rw[hk0];rfl
      simp only[Option.getD_some,Option.isSome_some]at K1 T1;have HK:Hid (Calls prog 47 #[.slice (some ⟨b,o,none⟩) j c,.string l[i].name] _ fun e w'=>e=.returned (.tuple #[.int .i64 (k0:Int),.bool true])/\w'=_):=K1;clear K1 hk0 hx;by_cases hki:k0=i
      ·have HB2:Hid (∀k (h:k<l.length),k<i+1->(AK l[k].name l).getD 0=k):=fun k h hk=>by
        by_cases e:k=i
        ·subst e;rw[HP0.out,hki]
        ·exact hp.out k h oM
       subst hki;clear T1 hp HP0;go_wp2_with(go_at_call 47;refine HK.out.mono ?_;rintro e w1 ⟨rfl,rfl⟩);go_roundw
       case rel=>exact⟨hb',k0+1,oM,gN,HB2.out⟩
       case measure=>simp[intOf];omega
      ·have HA2:Hid (AU l=101):=by show _=_;rw[HC3.out,if_pos (T1 hki)]
       have hne:((k0:Int)==(i:Int))=false:=by rw[beq_eq_false_iff_ne];omega
       have hne':((k0:Int) != (i:Int))=true:=by rw[bne,hne];rfl
       clear T1 hp HP0;go_wp2_with(go_at_call 47;refine HK.out.mono ?_;rintro e w1 ⟨rfl,rfl⟩);go_ret;exact⟨Dk HA2.out.symm,hb'⟩
     ·have:i=j:=oM;subst this;have hon:Be l=false:=OG fun k h=>hp.out k h (by rw[←HN.out];exact h);have HC4:Hid (AU l=if BO l>65536 then 102 else 0):=by show _=_;rw[HC3.out,hon];rfl
      have K1:=KT.out _ (HRD.out.below hb');obtain⟨T,hT⟩:∃T,BO l=T:=⟨_,rfl⟩
      rw[hT]at HC4 K1;have HK:Hid (Calls prog 48 #[.slice p i c] _ fun e w'=>e=.returned (.int .i64 T)/\Below _ _ w'):=K1;clear K1 hT hp hon HC3;by_cases h6:T>65536
      ·have HC5:Hid (AU l=102):=by show _=_;rw[HC4.out,if_pos h6]
       have h6':(65536:Int)<T:=h6;exact SL
      ·have HC5:Hid (AU l=0):=by show _=_;rw[HC4.out,if_neg h6]
       have h6':¬ (65536:Int)<T:=h6;exact SL
 ·have h64':(64:Int)<(n:Int):=oM;have HC2:Hid (AU l=2):=by show _=_;rw[HC.out,if_pos oM]
  clear HC;go_enter func31,ntmps31;go_wp2;go_ret;exact⟨Dk HC2.out.symm,C9 _⟩
theorem FK:(prog.info? 42).map (fun i=>(i.zero,i.size,i.bytes))=some (some (.agg #[.string ⟨#[]⟩,.int .i64 0,.int .i64 0]),3,32):=kR

end Go.Proofs.Ytnbccaicijcklaa
