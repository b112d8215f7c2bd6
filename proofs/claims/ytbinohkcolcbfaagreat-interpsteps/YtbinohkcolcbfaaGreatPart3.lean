import Derived.Test.YtbinohkcolcbfaaGreatPart1
namespace Go.Proofs.YtbinohkcolcbfaaGreat
open Go.RowKit Go.Proofs.Tryz
set_option linter.all false
set_option maxRecDepth 100000
set_option maxHeartbeats 16000000
theorem Fu(s:ByteArray):(s.toList==[])=(s.size==0):=by
 rw[Bool.eq_iff_iff];simp only[beq_iff_eq];constructor
 ·intro h;rw[ByteArray.toList_eq]at h;show s.data.size=0;rw[←Array.length_toList,h];rfl
 ·intro h;rw[ByteArray.toList_eq];exact List.eq_nil_of_length_eq_zero (by rw[Array.length_toList];exact h)
theorem Dx(s:ByteArray):s.toList.isEmpty=(s.size==0):=by
 rw[←Fu,Bool.eq_iff_iff];simp
theorem Kc{s:ByteArray}{j:Nat}(h:j<s.size)(hq:GY (s[j].toNat:Int)=false):Bo s=false:=by
 unfold Bo;have:((bs s).all fun b=>GY (nb b))=false:=by
  rw[List.all_eq_false];exact⟨s[j],by unfold bs;exact Array.mem_toList_iff.2 (Array.getElem_mem (xs:=s.data) h),by simp[nb,hq]⟩
 rw[this,Bool.and_false]
theorem Ox{s:ByteArray}(h0:s.size≠0)(h1:s.size<=64)(h:∀j (h:j<s.size),GY (s[j].toNat:Int)=true):Bo s=true:=by
 unfold Bo;have:((bs s).all fun b=>GY (nb b))=true:=by
  rw[List.all_eq_true];intro b hb;obtain⟨j,hj,rfl⟩:=List.mem_iff_getElem.1 hb;exact h j (by rw[←QH];exact hj)
 rw[this];simp[h0,h1]
theorem OS(s:ByteArray)(hs:s.size<=140737488351232)(w:World):
 Calls prog 102 #[.string s] w fun e w'=>e=.returned (.bool (Bo s))/\w'=w:=by
 by_cases h0:s.size=0
 ·have he:s.toList.isEmpty=true:=by rw[Dx];simp[h0]
  have he2:(s.toList==[])=true:=by rw[Fu];simp[h0]
  have hf:Bo s=false:=by unfold Bo;simp[h0]
  rw[hf];go_enter func102,ntmps102;go_wp2
  all_goals(go_ret;exact⟨rfl,rfl⟩)
 ·have he:s.toList.isEmpty=false:=by rw[Dx];simp[h0]
  have he2:(s.toList==[])=false:=by rw[Fu];simp[h0]
  by_cases h64:s.size<=64
  ·have h64':¬ ((64:Int)<(s.size:Int)):=oM;go_enter func102,ntmps102;go_wp2
   go_loopw [3] (fun iv wr=>wr=w/\∃j:Nat,j<=s.size/\iv=.int .i64 j/\Hid (∀i (h:i<s.size),i<j->GY (s[i].toNat:Int)=true)) (fun iv _=>s.size-(intOf iv).toNat)
   case atStart=>exact⟨rfl,0,Nat.zero_le _,rfl,fun i h hi=>absurd hi (Nat.not_lt_zero _)⟩
   case round=>
    obtain⟨rfl,j,hj,rfl,hp⟩:=hrel;by_cases hlt:j<s.size
    ·have i1:(0:Int)<=(j:Int):=oM;have i2:(j:Int)<(s.size:Int):=oM;have NX:Hid (GY (s[j].toNat:Int)=true->∀i (h:i<s.size),i<j+1->GY (s[i].toNat:Int)=true):=fun hq i h hi=>by
      exact YB
     have NB:Hid (GY (s[j].toNat:Int)=false->Bo s=false):=fun h=>Kc hlt h;go_upto_region 7 with(fail)
     obtain⟨c,hc⟩:∃c:Int,(s[j].toNat:Int)=c:=⟨_,rfl⟩
     have hc2:0<=c/\c<=255:=by have:=s[j].toNat_lt;omega
     rw[hc]at NX NB ⊢;clear hc;go_cut [59] (fun cv wx=>cv=.bool (!GY c)/\wx=wr)
     case first=>
      have hcl:(0<=c/\c<=44)\/(c=45)\/(c=46)\/(c=47)\/(48<=c/\c<=57)\/(58<=c/\c<=64)\/(65<=c/\c<=90)\/(91<=c/\c<=94)\/(c=95)\/(c=96)\/(97<=c/\c<=122)\/(123<=c/\c<=255):=oM;rcases hcl with h|h|h|h|h|h|h|h|h|h|h|h
      ·have f97:¬ (97:Int)<=c:=oM;have f65:¬ (65:Int)<=c:=oM;have f48:¬ (48:Int)<=c:=oM;have g122:c<=(122:Int):=oM;have g90:c<=(90:Int):=oM;have g57:c<=(57:Int):=oM;exact ZS
      ·have f97:¬ (97:Int)<=c:=oM;have f65:¬ (65:Int)<=c:=oM;have f48:¬ (48:Int)<=c:=oM;have g122:c<=(122:Int):=oM;have g90:c<=(90:Int):=oM;have g57:c<=(57:Int):=oM;have e95:(c==(95:Int))=false:=by rw[beq_eq_false_iff_ne];omega
       have e46:(c==(46:Int))=false:=by rw[beq_eq_false_iff_ne];omega
       have e47:(c==(47:Int))=false:=by rw[beq_eq_false_iff_ne];omega
       have e45:(c==(45:Int))=true:=sO;have hp2:GY c=true:=by unfold GY;simp[*]
       clear h hp NX NB;go_wp2;go_meet;exact⟨by rw[hp2];rfl,rfl⟩
      ·have f97:¬ (97:Int)<=c:=oM;have f65:¬ (65:Int)<=c:=oM;have f48:¬ (48:Int)<=c:=oM;have g122:c<=(122:Int):=oM;have g90:c<=(90:Int):=oM;have g57:c<=(57:Int):=oM;have e95:(c==(95:Int))=false:=by rw[beq_eq_false_iff_ne];omega
       have e46:(c==(46:Int))=true:=sO;exact ZT
      ·have f97:¬ (97:Int)<=c:=oM;have f65:¬ (65:Int)<=c:=oM;have f48:¬ (48:Int)<=c:=oM;have g122:c<=(122:Int):=oM;have g90:c<=(90:Int):=oM;have g57:c<=(57:Int):=oM;have e95:(c==(95:Int))=false:=by rw[beq_eq_false_iff_ne];omega
       have e46:(c==(46:Int))=false:=by rw[beq_eq_false_iff_ne];omega
       have e47:(c==(47:Int))=true:=sO;have e45:(c==(45:Int))=false:=by rw[beq_eq_false_iff_ne];omega
       have hp2:GY c=true:=by unfold GY;simp[*]
       clear h hp NX NB;go_wp2;go_meet;exact⟨by rw[hp2];rfl,rfl⟩
      ·have f97:¬ (97:Int)<=c:=oM;have f65:¬ (65:Int)<=c:=oM;have f48:(48:Int)<=c:=oM;have g122:c<=(122:Int):=oM;have g90:c<=(90:Int):=oM;have g57:c<=(57:Int):=oM;have e95:(c==(95:Int))=false:=by rw[beq_eq_false_iff_ne];omega
       have e46:(c==(46:Int))=false:=by rw[beq_eq_false_iff_ne];omega
       exact ZT
      ·have f97:¬ (97:Int)<=c:=oM;have f65:¬ (65:Int)<=c:=oM;have f48:(48:Int)<=c:=oM;have g122:c<=(122:Int):=oM;have g90:c<=(90:Int):=oM;have g57:¬c<=(57:Int):=oM;exact ZS
      ·have f97:¬ (97:Int)<=c:=oM;have f65:(65:Int)<=c:=oM;have f48:(48:Int)<=c:=oM;have g122:c<=(122:Int):=oM;have g90:c<=(90:Int):=oM;have g57:¬c<=(57:Int):=oM;have e95:(c==(95:Int))=false:=by rw[beq_eq_false_iff_ne];omega
       have e46:(c==(46:Int))=false:=by rw[beq_eq_false_iff_ne];omega
       exact ZT
      ·have f97:¬ (97:Int)<=c:=oM;have f65:(65:Int)<=c:=oM;have f48:(48:Int)<=c:=oM;have g122:c<=(122:Int):=oM;have g90:¬c<=(90:Int):=oM;have g57:¬c<=(57:Int):=oM;exact ZS
      ·have f97:¬ (97:Int)<=c:=oM;have f65:(65:Int)<=c:=oM;have f48:(48:Int)<=c:=oM;have g122:c<=(122:Int):=oM;have g90:¬c<=(90:Int):=oM;have g57:¬c<=(57:Int):=oM;have e95:(c==(95:Int))=true:=sO;have e46:(c==(46:Int))=false:=by rw[beq_eq_false_iff_ne];omega
       exact ZT
      ·have f97:¬ (97:Int)<=c:=oM;have f65:(65:Int)<=c:=oM;have f48:(48:Int)<=c:=oM;have g122:c<=(122:Int):=oM;have g90:¬c<=(90:Int):=oM;have g57:¬c<=(57:Int):=oM;exact ZS
      ·have f97:(97:Int)<=c:=oM;have f65:(65:Int)<=c:=oM;have f48:(48:Int)<=c:=oM;have g122:c<=(122:Int):=oM;have g90:¬c<=(90:Int):=oM;have g57:¬c<=(57:Int):=oM;have e95:(c==(95:Int))=false:=by rw[beq_eq_false_iff_ne];omega
       have e46:(c==(46:Int))=false:=by rw[beq_eq_false_iff_ne];omega
       exact ZT
      ·have f97:(97:Int)<=c:=oM;have f65:(65:Int)<=c:=oM;have f48:(48:Int)<=c:=oM;have g122:¬c<=(122:Int):=oM;have g90:¬c<=(90:Int):=oM;have g57:¬c<=(57:Int):=oM;exact ZS
     case rest=>
      obtain⟨rfl,rfl⟩:=hcut;cases hq:GY c
      ·have HB2:Hid (Bo s=false):=NB.out hq;clear NX NB hp hc2;go_wp2;go_ret;exact⟨A7 HB2.out.symm,rfl⟩
      ·have HP2:Hid (∀i (h:i<s.size),i<j+1->GY (s[i].toNat:Int)=true):=NX.out hq;clear NX NB hp hc2;go_wp2;go_roundw
       case rel=>exact⟨by trivial,j+1,oM,gN,HP2.out⟩
       case measure=>simp[intOf];omega
    ·exact Zen
  ·have hf:Bo s=false:=by unfold Bo;simp[h0,h64]
   have h64':(64:Int)<(s.size:Int):=oM;rw[hf];go_enter func102,ntmps102;go_wp2
   all_goals(go_ret;exact⟨rfl,rfl⟩)
theorem Lr(p:BM):BI p=((Bo p.name&&(p.kind==1||p.kind==2))&&(decide (1<=p.len)&&decide (p.len<=4096))):=rfl
theorem MN(p:BM)(hs:p.name.size<=140737488351232)(w:World):
 Calls prog 60 #[pv p] w fun e w'=>e=.returned (.bool (BI p))/\Below w.heap.size w w':=by
 rw[Lr];obtain⟨X,K,L⟩:=p;unfold pv;have KN:=OS X hs;simp only;obtain⟨N,hN⟩:∃N,Bo X=N:=⟨_,rfl⟩
 rw[hN]at KN ⊢;have HK:Hid (∀w,Calls prog 102 #[.string X] w fun e w'=>e=.returned (.bool N)/\w'=w):=KN;clear KN hN;cases N
 ·go_enter func60,ntmps60;go_wp2_with(go_at_call 102;refine(HK.out _).mono ?_;rintro e w1 ⟨rfl,rfl⟩);go_ret;exact⟨rfl,A0 _ _⟩
 ·have hk:((K==1)=true/\(K==2)=false)\/((K==1)=false/\(K==2)=true)\/((K==1)=false/\(K==2)=false):=by
   exact Zee
  have hL:(1<=L/\L<=4096)\/(¬1<=L/\L<=4096)\/(1<=L/\¬L<=4096):=oM;rcases hk with⟨h1,h2⟩|⟨h1,h2⟩|⟨h1,h2⟩<;>rcases hL with⟨h3,h4⟩|⟨h3,h4⟩|⟨h3,h4⟩
  all_goals
   go_enter func60,ntmps60;go_wp2_with(go_at_call 102;refine(HK.out _).mono ?_;rintro e w1 ⟨rfl,rfl⟩);go_ret;exact⟨A7 (by simp[h1,h2,h3,h4]),A0 _ _⟩
theorem GG(p:BM)(hs:p.name.size<=140737488351232)(w:World):
 Calls prog 77 #[pv p] w fun e w'=>e=.returned (.int .i64 (BJ p))/\Below w.heap.size w w':=by
 have KM:=MN p hs;have hm:BI p=true->1<=p.len/\p.len<=4096:=fun h=>by rw[Lr]at h;simp at h;exact h.2
 have hn:BJ p=if BI p then(if p.kind==2 then 2*p.len else p.len)else 0:=rfl;rw[hn];clear hn;obtain⟨N,hN⟩:∃N,BI p=N:=⟨_,rfl⟩
 rw[hN]at KM hm ⊢;clear hN hs;obtain⟨X,K,L⟩:=p;unfold pv at KM ⊢;simp only at hm KM ⊢;have HK:Hid (∀w,Calls prog 60 #[.agg #[.string X,.int .i64 K,.int .i64 L]] w fun e w'=>e=.returned (.bool N)/\Below w.heap.size w w'):=KM;clear KM;cases N
 ·clear hm;go_enter func77,ntmps77;go_wp2_with(go_at_call 60;refine(HK.out _).mono ?_;rintro e w1 ⟨rfl,hb1⟩);exact Zew
 ·have hL:=hm rfl;clear hm;cases h2:(K==2)
  ·go_enter func77,ntmps77;go_wp2_with(go_at_call 60;refine(HK.out _).mono ?_;rintro e w1 ⟨rfl,hb1⟩;have c1:w1.cell? ⟨w.heap.size,1,none⟩=some (.int .i64 K):=(hb1.cell sM).trans sG;have c2:w1.cell? ⟨w.heap.size,2,none⟩=some (.int .i64 L):=(hb1.cell sM).trans sG);exact Zew
  ·go_enter func77,ntmps77;go_wp2_with(go_at_call 60;refine(HK.out _).mono ?_;rintro e w1 ⟨rfl,hb1⟩;have c1:w1.cell? ⟨w.heap.size,1,none⟩=some (.int .i64 K):=(hb1.cell sM).trans sG;have c2:w1.cell? ⟨w.heap.size,2,none⟩=some (.int .i64 L):=(hb1.cell sM).trans sG);go_ret;exact⟨Eg sM,bel (A0 _ _) hb1⟩
theorem O2{a b:ByteArray}(h:(a.toList==b.toList)=true):a=b:=by
 rw[beq_iff_eq,ByteArray.toList_eq,ByteArray.toList_eq]at h;exact SP h
theorem Xe{a b:ByteArray}(h:a=b):(a.toList==b.toList)=true:=by rw[h];simp
theorem Xf{a b:ByteArray}(h:a≠b):(a.toList==b.toList)=false:=by
 cases e:(a.toList==b.toList)
 ·rfl
 ·exact absurd (O2 e) h
theorem RF(v:Value)(l:List BM)(hl:l.length<=140737488351232)(s:ByteArray)(w:World)(hr:Rd w v l):
 Calls prog 61 #[v,.string s] w fun e w'=>e=.returned (.tuple #[.int .i64 ((AI s l).getD 0:Nat),.bool (AI s l).isSome])/\w'=w:=by
 obtain⟨p,c,rfl,hr⟩:=hr;obtain⟨n,hn⟩:∃n,l.length=n:=⟨_,rfl⟩
 rw[hn]at hl ⊢;have HN:Hid (l.length=n):=hn;have HR:Hid (QA w p l):=hr;clear hn hr;go_enter func61,ntmps61;go_wp2
 go_loopw [6] (fun iv wr=>wr=w/\∃j:Nat,j<=n/\iv=.int .i64 j/\Hid (∀i (h:i<l.length),i<j->l[i].name≠s)) (fun iv _=>n-(intOf iv).toNat)
 case atStart=>exact⟨rfl,0,Nat.zero_le _,rfl,fun i h hi=>absurd hi (Nat.not_lt_zero _)⟩
 case round=>
  obtain⟨rfl,j,hj,rfl,hp⟩:=hrel;by_cases hlt:j<n
  ·have hll:j<l.length:=by rw[HN.out];exact hlt
   obtain⟨b,o,rfl,x0,x1,x2⟩:=HR.out.at hll;have i1:(0:Int)<=(j:Int):=oM;have i2:(j:Int)<(n:Int):=oM;by_cases he:l[j].name=s
   ·have HF:Hid (AI s l=some j):=JQ hll he hp.out;have he':=Xe he;clear hp he;go_wp2
    go_ret2
    exact⟨by rw[HF.out];rfl,rfl⟩
   ·have HP2:Hid (∀i (h:i<l.length),i<j+1->l[i].name≠s):=fun i h hi=>by
     by_cases e:i=j
     ·subst e;exact he
     ·exact hp.out i h oM
    have he':=Xf he;clear hp he;go_wp2;go_roundw
    case rel=>exact⟨by trivial,j+1,oM,gN,HP2.out⟩
    case measure=>simp[intOf];omega
  ·have:j=n:=oM;subst this;have HF:Hid (AI s l=none):=JP fun i h=>hp.out i h (by rw[←HN.out];exact h);clear hp;go_wp2
   go_ret2
   exact⟨by rw[HF.out];rfl,rfl⟩
theorem OO(v:Value)(l:List BM)(hl:l.length<=140737488351232)(hM:∀p∈l,p.name.size<=140737488351232)(w:World)(hr:Rd w v l):
 Calls prog 62 #[v] w fun e w'=>e=.returned (.int .i64 (Cz l))/\Below w.heap.size w w':=by
 obtain⟨p,c,rfl,hr⟩:=hr;obtain⟨n,hn⟩:∃n,l.length=n:=⟨_,rfl⟩
 rw[hn]at hl ⊢;have HN:Hid (l.length=n):=hn;have HR:Hid (QA w p l):=hr;have HM:Hid (∀p∈l,p.name.size<=140737488351232):=hM;clear hn hr hM;go_enter func62,ntmps62;go_wp2
 go_loopw [3,4] (fun tv iv wr=>Below w.heap.size w wr/\∃j:Nat,j<=n/\iv=.int .i64 j/\tv=.int .i64 (Cz (l.take j))) (fun _ iv _=>n-(intOf iv).toNat)
 case atStart=>exact⟨B8 w,0,Nat.zero_le _,rfl,rfl⟩
 case round=>
  obtain⟨hb,j,hj,rfl,rfl⟩:=hrel;by_cases hlt:j<n
  ·have hll:j<l.length:=by rw[HN.out];exact hlt
   obtain⟨b,o,rfl,hx⟩:=HR.out.at hll;obtain⟨x0,x1,x2⟩:=hx.below hb;have i1:(0:Int)<=(j:Int):=oM;have i2:(j:Int)<(n:Int):=oM;have KN:=GG l[j] (HM.out _ (List.getElem_mem hll));unfold pv at KN;have HK:Hid (∀w,Calls prog 77 #[.agg #[.string l[j].name,.int .i64 l[j].kind,.int .i64 l[j].len]] w fun e w'=>e=.returned (.int .i64 (BJ l[j]))/\Below w.heap.size w w'):=KN;have ht:Cz (l.take (j+1))=Cz (l.take j)+BJ l[j]:=by rw[Hk hll,Nn]
   have hb1:=Gh (l.take j);have hb2:=Ga l[j];rw[List.length_take,HN.out,Nat.min_eq_left hj]at hb1;obtain⟨T,hT⟩:∃T,Cz (l.take j)=T:=⟨_,rfl⟩
   obtain⟨U,hU⟩:∃U,BJ l[j]=U:=⟨_,rfl⟩
   rw[hT,hU]at ht;rw[hT]at hb1 ⊢;rw[hU]at hb2 HK;have HT:Hid (Cz (l.take (j+1))=T+U):=ht;have hw1:IntKind.i64.wrap (T+U)=T+U:=by rw[IntKind.wrap_i64];omega
   clear KN ht hT hU hx;go_wp2_with(go_at_call 77;refine(HK.out _).mono ?_;rintro e w1 ⟨rfl,hb3⟩);go_roundw
   case rel=>exact⟨bel hb hb3,j+1,oM,gN,by rw[HT.out]⟩
   case measure=>simp[intOf];omega
  ·exact Zea
theorem PA{s:ByteArray}:∀ {l:List BM} {k:Nat},AI s l=some k->k<l.length/\∀h:k<l.length,l[k].name=s
 |[],k,h=>by cases h
 |p::r,k,h=>by
  simp only[AI]at h;split at h
  ·rename_i e;cases h
   exact⟨sM,fun _=>e⟩
  ·cases hf:AI s r with
   |none=>rw[hf]at h;cases h
   |some m=>
    rw[hf]at h;cases h
    obtain⟨h1,h2⟩:=PA hf;exact⟨by simp;exact h1,fun _=>by simp only[List.getElem_cons_succ];exact h2 h1⟩
theorem Ih{s:ByteArray}:∀ {l:List BM} {i:Nat} (h:i<l.length),l[i].name=s->∃k,AI s l=some k/\k<=i
 |[],i,h,_=>absurd h (Nat.not_lt_zero _)
 |p::r,i,h,e=>by
  simp only[AI];split
  ·exact⟨0,rfl,Nat.zero_le _⟩
  ·rename_i hp;cases i with
   |zero=>exact absurd e hp
   |succ i=>
    obtain⟨k,hk,hki⟩:=Ih (l:=r) (i:=i) SH (by simpa using e);exact⟨k+1,by rw[hk];rfl,oM⟩
theorem VD{l:List BM}{i:Nat}(h:i<l.length)(hk:(AI l[i].name l).getD 0≠i):Bm l=true:=by
 obtain⟨k,hk1,hk2⟩:=Ih (l:=l) h rfl;rw[hk1]at hk;obtain⟨h1,h2⟩:=PA hk1;have hne:k≠i:=hk;exact Hl.2 ⟨i,k,h,h1,oM,h2 h1⟩
theorem Xs{l:List BM}(h:∀i (h:i<l.length),(AI l[i].name l).getD 0=i):Bm l=false:=by
 cases ht:Bm l
 ·rfl
 ·obtain⟨i,j,hi,hj,hji,e⟩:=Hl.1 ht;obtain⟨k,hk,hkj⟩:=Ih (s:=l[i].name) hj e;have:=h i hi;rw[hk]at this;have:k=i:=this;omega
theorem IY(v:Value)(l:List BM)(hl:l.length<=140737488351232)(hM:∀p∈l,p.name.size<=140737488351232)(w:World)(hr:Rd w v l):
 Calls prog 34 #[v] w fun e w'=>e=.returned (.int .i64 (AP l))/\Below w.heap.size w w':=by
 have KT:Hid (∀w,Rd w v l->Calls prog 62 #[v] w fun e w'=>e=.returned (.int .i64 (Cz l))/\Below w.heap.size w w'):=fun w h=>OO v l hl hM w h;have KF:Hid (∀w s,Rd w v l->Calls prog 61 #[v,.string s] w fun e w'=>e=.returned (.tuple #[.int .i64 ((AI s l).getD 0:Nat),.bool (AI s l).isSome])/\w'=w):=fun w s h=>RF v l hl s w h;have HRD:Hid (Rd w v l):=hr;obtain⟨p,c,rfl,hr⟩:=hr;obtain⟨n,hn⟩:∃n,l.length=n:=⟨_,rfl⟩
 have HN:Hid (l.length=n):=hn;have HR:Hid (QA w p l):=hr;have HM:Hid (∀p∈l,p.name.size<=140737488351232):=hM;have HC:Hid (AP l=if n>64 then 2 else if l.all BI=false then 100 else if Bm l then 101 else if Cz l>65536 then 102 else 0):=by
  show _=_;unfold AP;rw[hn]
 rw[hn]at hl HRD KT KF ⊢;clear hn hr hM;by_cases h64:n<=64
 ·have h64':¬ (64:Int)<(n:Int):=oM;have hng:¬n>64:=oM;have HC2:Hid (AP l=if l.all BI=false then 100 else if Bm l then 101 else if Cz l>65536 then 102 else 0):=by show _=_;rw[HC.out,if_neg hng]
  clear HC hng;go_enter func34,ntmps34;go_wp2
  go_loopw [3] (fun iv wr=>Below w.heap.size w wr/\∃j:Nat,j<=n/\iv=.int .i64 j/\Hid (∀i (h:i<l.length),i<j->BI l[i]=true)) (fun iv _=>n-(intOf iv).toNat)
  case atStart=>exact⟨B8 w,0,Nat.zero_le _,rfl,fun i h hi=>absurd hi (Nat.not_lt_zero _)⟩
  case round=>
   obtain⟨hb,j,hj,rfl,hp⟩:=hrel;by_cases hlt:j<n
   ·have hll:j<l.length:=by rw[HN.out];exact hlt
    obtain⟨b,o,rfl,hx⟩:=HR.out.at hll;obtain⟨x0,x1,x2⟩:=hx.below hb;have i1:(0:Int)<=(j:Int):=oM;have i2:(j:Int)<(n:Int):=oM;have KM:=MN l[j] (HM.out _ (List.getElem_mem hll));unfold pv at KM;have HA:Hid (BI l[j]=false->l.all BI=false):=fun h=>List.all_eq_false.2 ⟨l[j],List.getElem_mem hll,by rw[h];decide⟩;have HB:Hid (BI l[j]=true->∀i (h:i<l.length),i<j+1->BI l[i]=true):=fun hq i h hi=>by
     exact YB
    obtain⟨M,hMM⟩:∃M,BI l[j]=M:=⟨_,rfl⟩
    rw[hMM]at KM HA HB;have HK:Hid (∀w,Calls prog 60 #[.agg #[.string l[j].name,.int .i64 l[j].kind,.int .i64 l[j].len]] w fun e w'=>e=.returned (.bool M)/\Below w.heap.size w w'):=KM;clear KM hMM hx hp;cases M
    ·have HA2:Hid (AP l=100):=by show _=_;rw[HC2.out,if_pos (HA.out rfl)]
     clear HA HB;go_wp2_with(go_at_call 60;refine(HK.out _).mono ?_;rintro e w1 ⟨rfl,hb1⟩);go_ret;exact⟨Eg HA2.out.symm,bel hb hb1⟩
    ·have HB2:Hid (∀i (h:i<l.length),i<j+1->BI l[i]=true):=HB.out rfl;clear HA HB;go_wp2_with(go_at_call 60;refine(HK.out _).mono ?_;rintro e w1 ⟨rfl,hb1⟩);go_roundw
     case rel=>exact⟨bel hb hb1,j+1,oM,gN,HB2.out⟩
     case measure=>simp[intOf];omega
   ·have:j=n:=oM;subst this;have hall:l.all BI=true:=List.all_eq_true.2 fun q hq=>by
     obtain⟨i,hi,rfl⟩:=List.mem_iff_getElem.1 hq;exact Zex
    have HC3:Hid (AP l=if Bm l then 101 else if Cz l>65536 then 102 else 0):=by show _=_;rw[HC2.out,if_neg (by rw[hall];decide)]
    clear hp hall HC2;go_wp2
    go_loopw [4] (fun iv wr=>Below w.heap.size w wr/\∃i:Nat,i<=j/\iv=.int .i64 i/\Hid (∀k (h:k<l.length),k<i->(AI l[k].name l).getD 0=k)) (fun iv _=>j-(intOf iv).toNat)
    case atStart=>exact⟨hb,0,Nat.zero_le _,rfl,fun i h hi=>absurd hi (Nat.not_lt_zero _)⟩
    case round=>
     obtain⟨hb',i,hi,rfl,hp⟩:=hrel;by_cases hlt':i<j
     ·have hll:i<l.length:=by rw[HN.out];exact hlt'
      obtain⟨b,o,rfl,hx⟩:=HR.out.at hll;obtain⟨x0,x1,x2⟩:=hx.below hb';have i1:(0:Int)<=(i:Int):=oM;have i2:(i:Int)<(j:Int):=oM;have K1:=KF.out _ l[i].name (HRD.out.below hb');have hlo:=Ih (l:=l) hll rfl;obtain⟨k0,hk0,hk1⟩:=hlo;have T1:=VD (l:=l) hll;rw[hk0]at K1 T1;have HP0:Hid ((AI l[i].name l).getD 0=k0):=by show _=_;rw[hk0];rfl
      simp only[Option.getD_some,Option.isSome_some]at K1 T1;have HK:Hid (Calls prog 61 #[.slice (some ⟨b,o,none⟩) j c,.string l[i].name] _ fun e w'=>e=.returned (.tuple #[.int .i64 (k0:Int),.bool true])/\w'=_):=K1;clear K1 hk0 hx;by_cases hki:k0=i
      ·have HB2:Hid (∀k (h:k<l.length),k<i+1->(AI l[k].name l).getD 0=k):=fun k h hk=>by
        by_cases e:k=i
        ·subst e;rw[HP0.out,hki]
        ·exact hp.out k h oM
       subst hki;clear T1 hp HP0;go_wp2_with(go_at_call 61;refine HK.out.mono ?_;rintro e w1 ⟨rfl,rfl⟩);go_roundw
       case rel=>exact⟨hb',k0+1,oM,gN,HB2.out⟩
       case measure=>simp[intOf];omega
      ·have HA2:Hid (AP l=101):=by show _=_;rw[HC3.out,if_pos (T1 hki)]
       have hne:((k0:Int)==(i:Int))=false:=by rw[beq_eq_false_iff_ne];omega
       have hne':((k0:Int) != (i:Int))=true:=by rw[bne,hne];rfl
       clear T1 hp HP0;go_wp2_with(go_at_call 61;refine HK.out.mono ?_;rintro e w1 ⟨rfl,rfl⟩);go_ret;exact⟨Eg HA2.out.symm,hb'⟩
     ·have:i=j:=oM;subst this;have hon:Bm l=false:=Xs fun k h=>hp.out k h (by rw[←HN.out];exact h);have HC4:Hid (AP l=if Cz l>65536 then 102 else 0):=by show _=_;rw[HC3.out,hon];rfl
      have K1:=KT.out _ (HRD.out.below hb');obtain⟨T,hT⟩:∃T,Cz l=T:=⟨_,rfl⟩
      rw[hT]at HC4 K1;have HK:Hid (Calls prog 62 #[.slice p i c] _ fun e w'=>e=.returned (.int .i64 T)/\Below _ _ w'):=K1;clear K1 hT hp hon HC3;by_cases h6:T>65536
      ·have HC5:Hid (AP l=102):=by show _=_;rw[HC4.out,if_pos h6]
       have h6':(65536:Int)<T:=h6;exact Zey
      ·have HC5:Hid (AP l=0):=by show _=_;rw[HC4.out,if_neg h6]
       have h6':¬ (65536:Int)<T:=h6;exact Zey
 ·have h64':(64:Int)<(n:Int):=oM;have HC2:Hid (AP l=2):=by show _=_;rw[HC.out,if_pos oM]
  clear HC;go_enter func34,ntmps34;go_wp2;go_ret;exact⟨Eg HC2.out.symm,B8 _⟩
theorem IK:(prog.info? 66).map (fun i=>(i.zero,i.size,i.bytes))=some (some (.agg #[.string ⟨#[]⟩,.int .i64 0,.int .i64 0]),3,32):=kR
theorem three{α:Type}{l:List α}(h:l.length=3):∃a b c,l=[a,b,c]:=by
 match l,h with
 |[a,b,c],_=>exact⟨a,b,c,rfl⟩
theorem Yo{w w':World}{a:Addr}{v:Value}(k:Below w.heap.size w w')(h:w.cell? a=some v):w'.cell? a=some v:=(k.cell (A3 h)).trans h

def Vs(w:World)(v:Value)(ns:List Nat):Prop:=
 ∃p c,v=.slice p ns.length c/\(ns=[]\/∃b o,p=some ⟨b,o,none⟩/\∀i (h:i<ns.length),∃q d,w.cell? ⟨b,o+i,none⟩=some (.slice q ns[i] d))
theorem Mq:∀ {l:List BM} {ns:List Nat},l.length≠ns.length->AB l ns=false
 |[],[],h=>absurd rfl h
 |[],_::_,_=>rfl
 |_::_,[],_=>rfl
 |p::r,n::m,h=>by
  simp only[AB];rw[Mq (l:=r) (ns:=m) SH,Bool.and_false]
theorem Mp:∀ {l:List BM} {ns:List Nat},l.length=ns.length->(AB l ns=true↔∀i (h:i<l.length) (h':i<ns.length),(ns[i]:Int)=BJ l[i])
 |[],[],_=>by simp[AB]
 |[],_::_,h=>by simp at h
 |_::_,[],h=>by simp at h
 |p::r,n::m,h=>by
  simp only[AB,Bool.and_eq_true,decide_eq_true_eq];rw[Mp (l:=r) (ns:=m) SH];constructor
  ·rintro⟨h1,h2⟩ i hi hi';cases i with
   |zero=>exact h1
   |succ i=>exact h2 i (by simpa using hi) (by simpa using hi')
  ·intro hh;refine⟨hh 0 sM sM,fun i hi hi'=>?_⟩;have:=hh (i+1) (by simpa using hi) (by simpa using hi');simpa using this
end Go.Proofs.YtbinohkcolcbfaaGreat
