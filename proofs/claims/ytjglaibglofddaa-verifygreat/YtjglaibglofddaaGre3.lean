import Derived.Test.YtjglaibglofddaaGre1
import Ieee.Arith
import Derived.Laws.FloatBits
import Derived.Below
namespace Go.Proofs.Ytjglaibglofddaa
open Go.RowKit Go.Proofs.Try
set_option linter.all false
set_option maxRecDepth 100000
set_option maxHeartbeats 16000000
theorem Cb(s:ByteArray):(s.toList==[])=(s.size==0):=by
 rw[Bool.eq_iff_iff];simp only[beq_iff_eq];constructor
 .intro h;rw[ByteArray.toList_eq]at h;show s.data.size=0;rw[<-Array.length_toList,h];rfl
 .intro h;rw[ByteArray.toList_eq];exact List.eq_nil_of_length_eq_zero (by rw[Array.length_toList];exact h)
theorem Bq(s:ByteArray):s.toList.isEmpty=(s.size==0):=by
 rw[<-Cb,Bool.eq_iff_iff];simp
theorem DN{s:ByteArray}{j:Nat}(h:j<s.size)(hq:CN (s[j].toNat:Int)=false):AF s=false:=by
 unfold AF;have:((bs s).all fun b=>CN (nb b))=false:=by
  rw[List.all_eq_false];exact⟨s[j],by unfold bs;exact Array.mem_toList_iff.2 (Array.getElem_mem (xs:=s.data) h),by simp[nb,hq]⟩
 rw[this,Bool.and_false]
theorem F7{s:ByteArray}(h0:s.size≠0)(h1:s.size<=64)(h:∀j (h:j<s.size),CN (s[j].toNat:Int)=true):AF s=true:=by
 unfold AF;have:((bs s).all fun b=>CN (nb b))=true:=by
  rw[List.all_eq_true];intro b hb;obtain⟨j,hj,rfl⟩:=List.mem_iff_getElem.1 hb;exact h j (by rw[<-Gf];exact hj)
 rw[this];simp[h0,h1]
theorem Fm(s:ByteArray)(hs:s.size<=140737488351232)(w:World):
 Calls prog 68 #[.string s] w fun e w'=>e=.returned (.bool (AF s))/\w'=w:=by
 by_cases h0:s.size=0
 .have he:s.toList.isEmpty=true:=by rw[Bq];simp[h0]
  have he2:(s.toList==[])=true:=by rw[Cb];simp[h0]
  have hf:AF s=false:=by unfold AF;simp[h0]
  rw[hf];go_enter func68,ntmps68;go_wp2
  all_goals(go_ret;exact⟨rfl,rfl⟩)
 .have he:s.toList.isEmpty=false:=by rw[Bq];simp[h0]
  have he2:(s.toList==[])=false:=by rw[Cb];simp[h0]
  by_cases h64:s.size<=64
  .have h64':¬ ((64:Int)<(s.size:Int)):=oM;go_enter func68,ntmps68;go_wp2
   go_loopw [3] (fun iv wr=>wr=w/\∃j:Nat,j<=s.size/\iv=.int .i64 j/\Hid (∀i (h:i<s.size),i<j->CN (s[i].toNat:Int)=true)) (fun iv _=>s.size-(intOf iv).toNat)
   case atStart=>exact⟨rfl,0,gI _,rfl,fun i h hi=>absurd hi (Nat.not_lt_zero _)⟩
   case round=>
    obtain⟨rfl,j,hj,rfl,hp⟩:=hrel;by_cases hlt:j<s.size
    .have i1:(0:Int)<=(j:Int):=oM;have i2:(j:Int)<(s.size:Int):=oM;have NX:Hid (CN (s[j].toNat:Int)=true->∀i (h:i<s.size),i<j+1->CN (s[i].toNat:Int)=true):=fun hq i h hi=>by
      exact Jm
     have NB:Hid (CN (s[j].toNat:Int)=false->AF s=false):=fun h=>DN hlt h;go_upto_region 7 with(fail)
     obtain⟨c,hc⟩:∃c:Int,(s[j].toNat:Int)=c:=⟨_,rfl⟩
     have hc2:0<=c/\c<=255:=by have:=s[j].toNat_lt;omega
     rw[hc]at NX NB |-;clear hc;go_cut [59] (fun cv wx=>cv=.bool (!CN c)/\wx=wr)
     case first=>
      have hcl:(0<=c/\c<=44)\/(c=45)\/(c=46)\/(c=47)\/(48<=c/\c<=57)\/(58<=c/\c<=64)\/(65<=c/\c<=90)\/(91<=c/\c<=94)\/(c=95)\/(c=96)\/(97<=c/\c<=122)\/(123<=c/\c<=255):=oM;rcases hcl with h|h|h|h|h|h|h|h|h|h|h|h
      .have f97:¬ (97:Int)<=c:=oM;have f65:¬ (65:Int)<=c:=oM;have f48:¬ (48:Int)<=c:=oM;have g122:c<=(122:Int):=oM;have g90:c<=(90:Int):=oM;have g57:c<=(57:Int):=oM;exact JJ
      .have f97:¬ (97:Int)<=c:=oM;have f65:¬ (65:Int)<=c:=oM;have f48:¬ (48:Int)<=c:=oM;have g122:c<=(122:Int):=oM;have g90:c<=(90:Int):=oM;have g57:c<=(57:Int):=oM;have e95:(c==(95:Int))=false:=by rw[beq_eq_false_iff_ne];omega
       have e46:(c==(46:Int))=false:=by rw[beq_eq_false_iff_ne];omega
       have e47:(c==(47:Int))=false:=by rw[beq_eq_false_iff_ne];omega
       have e45:(c==(45:Int))=true:=sO;have hp2:CN c=true:=by unfold CN;simp[*]
       clear h hp NX NB;go_wp2;go_meet;exact⟨by rw[hp2];rfl,rfl⟩
      .have f97:¬ (97:Int)<=c:=oM;have f65:¬ (65:Int)<=c:=oM;have f48:¬ (48:Int)<=c:=oM;have g122:c<=(122:Int):=oM;have g90:c<=(90:Int):=oM;have g57:c<=(57:Int):=oM;have e95:(c==(95:Int))=false:=by rw[beq_eq_false_iff_ne];omega
       have e46:(c==(46:Int))=true:=sO;exact JK
      .have f97:¬ (97:Int)<=c:=oM;have f65:¬ (65:Int)<=c:=oM;have f48:¬ (48:Int)<=c:=oM;have g122:c<=(122:Int):=oM;have g90:c<=(90:Int):=oM;have g57:c<=(57:Int):=oM;have e95:(c==(95:Int))=false:=by rw[beq_eq_false_iff_ne];omega
       have e46:(c==(46:Int))=false:=by rw[beq_eq_false_iff_ne];omega
       have e47:(c==(47:Int))=true:=sO;have e45:(c==(45:Int))=false:=by rw[beq_eq_false_iff_ne];omega
       have hp2:CN c=true:=by unfold CN;simp[*]
       clear h hp NX NB;go_wp2;go_meet;exact⟨by rw[hp2];rfl,rfl⟩
      .have f97:¬ (97:Int)<=c:=oM;have f65:¬ (65:Int)<=c:=oM;have f48:(48:Int)<=c:=oM;have g122:c<=(122:Int):=oM;have g90:c<=(90:Int):=oM;have g57:c<=(57:Int):=oM;have e95:(c==(95:Int))=false:=by rw[beq_eq_false_iff_ne];omega
       have e46:(c==(46:Int))=false:=by rw[beq_eq_false_iff_ne];omega
       exact JK
      .have f97:¬ (97:Int)<=c:=oM;have f65:¬ (65:Int)<=c:=oM;have f48:(48:Int)<=c:=oM;have g122:c<=(122:Int):=oM;have g90:c<=(90:Int):=oM;have g57:¬c<=(57:Int):=oM;exact JJ
      .have f97:¬ (97:Int)<=c:=oM;have f65:(65:Int)<=c:=oM;have f48:(48:Int)<=c:=oM;have g122:c<=(122:Int):=oM;have g90:c<=(90:Int):=oM;have g57:¬c<=(57:Int):=oM;have e95:(c==(95:Int))=false:=by rw[beq_eq_false_iff_ne];omega
       have e46:(c==(46:Int))=false:=by rw[beq_eq_false_iff_ne];omega
       exact JK
      .have f97:¬ (97:Int)<=c:=oM;have f65:(65:Int)<=c:=oM;have f48:(48:Int)<=c:=oM;have g122:c<=(122:Int):=oM;have g90:¬c<=(90:Int):=oM;have g57:¬c<=(57:Int):=oM;exact JJ
      .have f97:¬ (97:Int)<=c:=oM;have f65:(65:Int)<=c:=oM;have f48:(48:Int)<=c:=oM;have g122:c<=(122:Int):=oM;have g90:¬c<=(90:Int):=oM;have g57:¬c<=(57:Int):=oM;have e95:(c==(95:Int))=true:=sO;have e46:(c==(46:Int))=false:=by rw[beq_eq_false_iff_ne];omega
       exact JK
      .have f97:¬ (97:Int)<=c:=oM;have f65:(65:Int)<=c:=oM;have f48:(48:Int)<=c:=oM;have g122:c<=(122:Int):=oM;have g90:¬c<=(90:Int):=oM;have g57:¬c<=(57:Int):=oM;exact JJ
      .have f97:(97:Int)<=c:=oM;have f65:(65:Int)<=c:=oM;have f48:(48:Int)<=c:=oM;have g122:c<=(122:Int):=oM;have g90:¬c<=(90:Int):=oM;have g57:¬c<=(57:Int):=oM;have e95:(c==(95:Int))=false:=by rw[beq_eq_false_iff_ne];omega
       have e46:(c==(46:Int))=false:=by rw[beq_eq_false_iff_ne];omega
       exact JK
      .have f97:(97:Int)<=c:=oM;have f65:(65:Int)<=c:=oM;have f48:(48:Int)<=c:=oM;have g122:¬c<=(122:Int):=oM;have g90:¬c<=(90:Int):=oM;have g57:¬c<=(57:Int):=oM;exact JJ
     case rest=>
      obtain⟨rfl,rfl⟩:=hcut;cases hq:CN c
      .have HB2:Hid (AF s=false):=NB.out hq;clear NX NB hp hc2;go_wp2;go_ret;exact⟨A9 HB2.symm,rfl⟩
      .have HP2:Hid (∀i (h:i<s.size),i<j+1->CN (s[i].toNat:Int)=true):=NX.out hq;clear NX NB hp hc2;go_wp2;go_roundw
       case rel=>exact⟨by trivial,j+1,oM,gN,HP2.out⟩
       case measure=>simp[intOf];omega
    .exact LH
  .have hf:AF s=false:=by unfold AF;simp[h0,h64]
   have h64':(64:Int)<(s.size:Int):=oM;rw[hf];go_enter func68,ntmps68;go_wp2
   all_goals(go_ret;exact⟨rfl,rfl⟩)
theorem E2(p:AX):AW p=((AF p.name&&(p.kind==1||p.kind==2))&&(decide (1<=p.len)&&decide (p.len<=4096))):=rfl
theorem Ev(p:AX)(hs:p.name.size<=140737488351232)(w:World):
 Calls prog 47 #[pv p] w fun e w'=>e=.returned (.bool (AW p))/\Below w.heap.size w w':=by
 rw[E2];obtain⟨X,K,L⟩:=p;unfold pv;have KN:=Fm X hs;simp only;obtain⟨N,hN⟩:=gA (AF X)
 rw[hN]at KN |-;have HK:Hid (∀w,Calls prog 68 #[.string X] w fun e w'=>e=.returned (.bool N)/\w'=w):=KN;clear KN hN;cases N
 .go_enter func47,ntmps47;go_wp2_with(go_at_call 68;refine(HK.out _).mono ?_;rintro e w1 ⟨rfl,rfl⟩);go_ret;exact⟨rfl,A0 _ _⟩
 .have hk:((K==1)=true/\(K==2)=false)\/((K==1)=false/\(K==2)=true)\/((K==1)=false/\(K==2)=false):=by
   exact LD
  have hL:(1<=L/\L<=4096)\/(¬1<=L/\L<=4096)\/(1<=L/\¬L<=4096):=oM;rcases hk with⟨h1,h2⟩|⟨h1,h2⟩|⟨h1,h2⟩<;>rcases hL with⟨h3,h4⟩|⟨h3,h4⟩|⟨h3,h4⟩
  all_goals
   go_enter func47,ntmps47;go_wp2_with(go_at_call 68;refine(HK.out _).mono ?_;rintro e w1 ⟨rfl,rfl⟩);go_ret;exact⟨A9 (by simp[h1,h2,h3,h4]),A0 _ _⟩
theorem E4(p:AX)(hs:p.name.size<=140737488351232)(w:World):
 Calls prog 69 #[pv p] w fun e w'=>e=.returned (.int .i64 (Cq p))/\Below w.heap.size w w':=by
 have KM:=Ev p hs;have hm:AW p=true->1<=p.len/\p.len<=4096:=fun h=>by rw[E2]at h;simp at h;exact h.2
 have hn:Cq p=if AW p then(if p.kind==2 then 2*p.len else p.len)else 0:=rfl;rw[hn];clear hn;obtain⟨N,hN⟩:=gA (AW p)
 rw[hN]at KM hm |-;clear hN hs;obtain⟨X,K,L⟩:=p;unfold pv at KM |-;simp only at hm KM |-;have HK:Hid (∀w,Calls prog 47 #[.agg #[.string X,.int .i64 K,.int .i64 L]] w fun e w'=>e=.returned (.bool N)/\Below w.heap.size w w'):=KM;clear KM;cases N
 .clear hm;go_enter func69,ntmps69;go_wp2_with(go_at_call 47;refine(HK.out _).mono ?_;rintro e w1 ⟨rfl,hb1⟩);exact Kj
 .have hL:=hm rfl;clear hm;cases h2:(K==2)
  .go_enter func69,ntmps69;go_wp2_with(go_at_call 47;refine(HK.out _).mono ?_;rintro e w1 ⟨rfl,hb1⟩;have c1:w1.cell? ⟨w.heap.size,1,none⟩=some (.int .i64 K):=(hb1.cell sM).trans sG;have c2:w1.cell? ⟨w.heap.size,2,none⟩=some (.int .i64 L):=(hb1.cell sM).trans sG);exact Kj
  .go_enter func69,ntmps69;go_wp2_with(go_at_call 47;refine(HK.out _).mono ?_;rintro e w1 ⟨rfl,hb1⟩;have c1:w1.cell? ⟨w.heap.size,1,none⟩=some (.int .i64 K):=(hb1.cell sM).trans sG;have c2:w1.cell? ⟨w.heap.size,2,none⟩=some (.int .i64 L):=(hb1.cell sM).trans sG);go_ret;exact⟨BQ sM,bel (A0 _ _) hb1⟩
theorem EU{a b:ByteArray}(h:(a.toList==b.toList)=true):a=b:=by
 rw[beq_iff_eq,ByteArray.toList_eq,ByteArray.toList_eq]at h;exact GX h
theorem IG{a b:ByteArray}(h:a=b):(a.toList==b.toList)=true:=by rw[h];simp
theorem IH{a b:ByteArray}(h:a≠b):(a.toList==b.toList)=false:=by
 cases e:(a.toList==b.toList)
 .rfl
 .exact absurd (EU e) h
theorem Gy(v:Value)(l:List AX)(hl:l.length<=140737488351232)(s:ByteArray)(w:World)(hr:Rd w v l):
 Calls prog 48 #[v,.string s] w fun e w'=>e=.returned (.tuple #[.int .i64 ((Aw s l).getD 0:Nat),.bool (Aw s l).isSome])/\w'=w:=by
 obtain⟨p,c,rfl,hr⟩:=hr;obtain⟨n,hn⟩:=gA (l.length)
 rw[hn]at hl |-;have HN:Hid (l.length=n):=hn;have HR:Hid (GR w p l):=hr;clear hn hr;go_enter func48,ntmps48;go_wp2
 go_loopw [6] (fun iv wr=>wr=w/\∃j:Nat,j<=n/\iv=.int .i64 j/\Hid (∀i (h:i<l.length),i<j->l[i].name≠s)) (fun iv _=>n-(intOf iv).toNat)
 case atStart=>exact⟨rfl,0,gI _,rfl,fun i h hi=>absurd hi (Nat.not_lt_zero _)⟩
 case round=>
  obtain⟨rfl,j,hj,rfl,hp⟩:=hrel;by_cases hlt:j<n
  .have hll:j<l.length:=by rw[HN.out];exact hlt
   obtain⟨b,o,rfl,x0,x1,x2⟩:=HR.at hll;have i1:(0:Int)<=(j:Int):=oM;have i2:(j:Int)<(n:Int):=oM;by_cases he:l[j].name=s
   .have HF:Hid (Aw s l=some j):=DM hll he hp.out;have he':=IG he;clear hp he;go_wp2
    go_ret2
    exact⟨by rw[HF.out];rfl,rfl⟩
   .have HP2:Hid (∀i (h:i<l.length),i<j+1->l[i].name≠s):=fun i h hi=>by
     by_cases e:i=j
     .subst e;exact he
     .exact hp.out i h oM
    have he':=IH he;clear hp he;go_wp2;go_roundw
    case rel=>exact⟨by trivial,j+1,oM,gN,HP2.out⟩
    case measure=>simp[intOf];omega
  .have:j=n:=oM;subst this;have HF:Hid (Aw s l=none):=DL fun i h=>hp.out i h (by rw[<-HN.out];exact h);clear hp;go_wp2
   go_ret2
   exact⟨by rw[HF.out];rfl,rfl⟩
theorem Fg(v:Value)(l:List AX)(hl:l.length<=140737488351232)(hM:∀p∈l,p.name.size<=140737488351232)(w:World)(hr:Rd w v l):
 Calls prog 49 #[v] w fun e w'=>e=.returned (.int .i64 (B6 l))/\Below w.heap.size w w':=by
 obtain⟨p,c,rfl,hr⟩:=hr;obtain⟨n,hn⟩:=gA (l.length)
 rw[hn]at hl |-;have HN:Hid (l.length=n):=hn;have HR:Hid (GR w p l):=hr;have HM:Hid (∀p∈l,p.name.size<=140737488351232):=hM;clear hn hr hM;go_enter func49,ntmps49;go_wp2
 go_loopw [3,4] (fun tv iv wr=>Below w.heap.size w wr/\∃j:Nat,j<=n/\iv=.int .i64 j/\tv=.int .i64 (B6 (l.take j))) (fun _ iv _=>n-(intOf iv).toNat)
 case atStart=>exact⟨BH w,0,gI _,rfl,rfl⟩
 case round=>
  obtain⟨hb,j,hj,rfl,rfl⟩:=hrel;by_cases hlt:j<n
  .have hll:j<l.length:=by rw[HN.out];exact hlt
   obtain⟨b,o,rfl,hx⟩:=HR.at hll;obtain⟨x0,x1,x2⟩:=hx.below hb;have i1:(0:Int)<=(j:Int):=oM;have i2:(j:Int)<(n:Int):=oM;have KN:=E4 l[j] (HM.out _ (gD hll));unfold pv at KN;have HK:Hid (∀w,Calls prog 69 #[.agg #[.string l[j].name,.int .i64 l[j].kind,.int .i64 l[j].len]] w fun e w'=>e=.returned (.int .i64 (Cq l[j]))/\Below w.heap.size w w'):=KN;have ht:B6 (l.take (j+1))=B6 (l.take j)+Cq l[j]:=by rw[D0 hll,EL]
   have hb1:=Cx (l.take j);have hb2:=Cr l[j];rw[List.length_take,HN.out,Nat.min_eq_left hj]at hb1;obtain⟨T,hT⟩:=gA (B6 (l.take j))
   obtain⟨U,hU⟩:=gA (Cq l[j])
   rw[hT,hU]at ht;rw[hT]at hb1 |-;rw[hU]at hb2 HK;have HT:Hid (B6 (l.take (j+1))=T+U):=ht;have hw1:IntKind.i64.wrap (T+U)=T+U:=by rw[IntKind.wrap_i64];omega
   clear KN ht hT hU hx;go_wp2_with(go_at_call 69;refine(HK.out _).mono ?_;rintro e w1 ⟨rfl,hb3⟩);go_roundw
   case rel=>exact⟨bel hb hb3,j+1,oM,gN,by rw[HT.out]⟩
   case measure=>simp[intOf];omega
  .exact LC
theorem Fw{s:ByteArray}:∀ {l:List AX} {k:Nat},Aw s l=some k->k<l.length/\∀h:k<l.length,l[k].name=s
 |[],k,h=>by cases h
 |p::r,k,h=>by
  simp only[Aw]at h;split at h
  .rename_i e;cases h
   exact⟨sM,fun _=>e⟩
  .cases hf:Aw s r with
   |none=>rw[hf]at h;cases h
   |some m=>
    rw[hf]at h;cases h
    obtain⟨h1,h2⟩:=Fw hf;exact⟨by simp;exact h1,fun _=>by simp only[List.getElem_cons_succ];exact h2 h1⟩
theorem Dd{s:ByteArray}:∀ {l:List AX} {i:Nat} (h:i<l.length),l[i].name=s->∃k,Aw s l=some k/\k<=i
 |[],i,h,_=>absurd h (Nat.not_lt_zero _)
 |p::r,i,h,e=>by
  simp only[Aw];split
  .exact⟨0,rfl,gI _⟩
  .rename_i hp;cases i with
   |zero=>exact absurd e hp
   |succ i=>
    obtain⟨k,hk,hki⟩:=Dd (l:=r) (i:=i) (by simpa using h) (by simpa using e);exact⟨k+1,by rw[hk];rfl,oM⟩
theorem Iu{l:List AX}{i:Nat}(h:i<l.length)(hk:(Aw l[i].name l).getD 0≠i):AD l=true:=by
 obtain⟨k,hk1,hk2⟩:=Dd (l:=l) h rfl;rw[hk1]at hk;obtain⟨h1,h2⟩:=Fw hk1;have hne:k≠i:=hk;exact D1.2 ⟨i,k,h,h1,oM,h2 h1⟩
theorem IR{l:List AX}(h:∀i (h:i<l.length),(Aw l[i].name l).getD 0=i):AD l=false:=by
 cases ht:AD l
 .rfl
 .obtain⟨i,j,hi,hj,hji,e⟩:=D1.1 ht;obtain⟨k,hk,hkj⟩:=Dd (s:=l[i].name) hj e;have:=h i hi;rw[hk]at this;have:k=i:=this;omega
theorem Dq(v:Value)(l:List AX)(hl:l.length<=140737488351232)(hM:∀p∈l,p.name.size<=140737488351232)(w:World)(hr:Rd w v l):
 Calls prog 32 #[v] w fun e w'=>e=.returned (.int .i64 (At l))/\Below w.heap.size w w':=by
 have KT:Hid (∀w,Rd w v l->Calls prog 49 #[v] w fun e w'=>e=.returned (.int .i64 (B6 l))/\Below w.heap.size w w'):=fun w h=>Fg v l hl hM w h;have KF:Hid (∀w s,Rd w v l->Calls prog 48 #[v,.string s] w fun e w'=>e=.returned (.tuple #[.int .i64 ((Aw s l).getD 0:Nat),.bool (Aw s l).isSome])/\w'=w):=fun w s h=>Gy v l hl s w h;have HRD:Hid (Rd w v l):=hr;obtain⟨p,c,rfl,hr⟩:=hr;obtain⟨n,hn⟩:=gA (l.length)
 have HN:Hid (l.length=n):=hn;have HR:Hid (GR w p l):=hr;have HM:Hid (∀p∈l,p.name.size<=140737488351232):=hM;have HC:Hid (At l=if n>64 then 2 else if l.all AW=false then 100 else if AD l then 101 else if B6 l>65536 then 102 else 0):=by
  show _=_;unfold At;rw[hn]
 rw[hn]at hl HRD KT KF |-;clear hn hr hM;by_cases h64:n<=64
 .have h64':¬ (64:Int)<(n:Int):=oM;have hng:¬n>64:=oM;have HC2:Hid (At l=if l.all AW=false then 100 else if AD l then 101 else if B6 l>65536 then 102 else 0):=by show _=_;rw[HC.out,if_neg hng]
  clear HC hng;go_enter func32,ntmps32;go_wp2
  go_loopw [3] (fun iv wr=>Below w.heap.size w wr/\∃j:Nat,j<=n/\iv=.int .i64 j/\Hid (∀i (h:i<l.length),i<j->AW l[i]=true)) (fun iv _=>n-(intOf iv).toNat)
  case atStart=>exact⟨BH w,0,gI _,rfl,fun i h hi=>absurd hi (Nat.not_lt_zero _)⟩
  case round=>
   obtain⟨hb,j,hj,rfl,hp⟩:=hrel;by_cases hlt:j<n
   .have hll:j<l.length:=by rw[HN.out];exact hlt
    obtain⟨b,o,rfl,hx⟩:=HR.at hll;obtain⟨x0,x1,x2⟩:=hx.below hb;have i1:(0:Int)<=(j:Int):=oM;have i2:(j:Int)<(n:Int):=oM;have KM:=Ev l[j] (HM.out _ (gD hll));unfold pv at KM;have HA:Hid (AW l[j]=false->l.all AW=false):=fun h=>List.all_eq_false.2 ⟨l[j],gD hll,by rw[h];decide⟩;have HB:Hid (AW l[j]=true->∀i (h:i<l.length),i<j+1->AW l[i]=true):=fun hq i h hi=>by
     exact Jm
    obtain⟨M,hMM⟩:=gA (AW l[j])
    rw[hMM]at KM HA HB;have HK:Hid (∀w,Calls prog 47 #[.agg #[.string l[j].name,.int .i64 l[j].kind,.int .i64 l[j].len]] w fun e w'=>e=.returned (.bool M)/\Below w.heap.size w w'):=KM;clear KM hMM hx hp;cases M
    .have HA2:Hid (At l=100):=by show _=_;rw[HC2.out,if_pos (HA.out rfl)]
     clear HA HB;go_wp2_with(go_at_call 47;refine(HK.out _).mono ?_;rintro e w1 ⟨rfl,hb1⟩);go_ret;exact⟨BQ HA2.symm,bel hb hb1⟩
    .have HB2:Hid (∀i (h:i<l.length),i<j+1->AW l[i]=true):=HB.out rfl;clear HA HB;go_wp2_with(go_at_call 47;refine(HK.out _).mono ?_;rintro e w1 ⟨rfl,hb1⟩);go_roundw
     case rel=>exact⟨bel hb hb1,j+1,oM,gN,HB2.out⟩
     case measure=>simp[intOf];omega
   .have:j=n:=oM;subst this;have hall:l.all AW=true:=List.all_eq_true.2 fun q hq=>by
     obtain⟨i,hi,rfl⟩:=List.mem_iff_getElem.1 hq;exact Kk
    have HC3:Hid (At l=if AD l then 101 else if B6 l>65536 then 102 else 0):=by show _=_;rw[HC2.out,if_neg (by rw[hall];decide)]
    clear hp hall HC2;go_wp2
    go_loopw [4] (fun iv wr=>Below w.heap.size w wr/\∃i:Nat,i<=j/\iv=.int .i64 i/\Hid (∀k (h:k<l.length),k<i->(Aw l[k].name l).getD 0=k)) (fun iv _=>j-(intOf iv).toNat)
    case atStart=>exact⟨hb,0,gI _,rfl,fun i h hi=>absurd hi (Nat.not_lt_zero _)⟩
    case round=>
     obtain⟨hb',i,hi,rfl,hp⟩:=hrel;by_cases hlt':i<j
     .have hll:i<l.length:=by rw[HN.out];exact hlt'
      obtain⟨b,o,rfl,hx⟩:=HR.at hll;obtain⟨x0,x1,x2⟩:=hx.below hb';have i1:(0:Int)<=(i:Int):=oM;have i2:(i:Int)<(j:Int):=oM;have K1:=KF.out _ l[i].name (HRD.below hb');have hlo:=Dd (l:=l) hll rfl;obtain⟨k0,hk0,hk1⟩:=hlo;have T1:=Iu (l:=l) hll;rw[hk0]at K1 T1;have HP0:Hid ((Aw l[i].name l).getD 0=k0):=by show _=_;rw[hk0];rfl
      simp only[Option.getD_some,Option.isSome_some]at K1 T1;have HK:Hid (Calls prog 48 #[.slice (some ⟨b,o,none⟩) j c,.string l[i].name] _ fun e w'=>e=.returned (.tuple #[.int .i64 (k0:Int),.bool true])/\w'=_):=K1;clear K1 hk0 hx;by_cases hki:k0=i
      .have HB2:Hid (∀k (h:k<l.length),k<i+1->(Aw l[k].name l).getD 0=k):=fun k h hk=>by
        by_cases e:k=i
        .subst e;rw[HP0.out,hki]
        .exact hp.out k h oM
       subst hki;clear T1 hp HP0;go_wp2_with(go_at_call 48;refine HK.mono ?_;rintro e w1 ⟨rfl,rfl⟩);go_roundw
       case rel=>exact⟨hb',k0+1,oM,gN,HB2.out⟩
       case measure=>simp[intOf];omega
      .have HA2:Hid (At l=101):=by show _=_;rw[HC3.out,if_pos (T1 hki)]
       have hne:((k0:Int)==(i:Int))=false:=by rw[beq_eq_false_iff_ne];omega
       have hne':((k0:Int) != (i:Int))=true:=by rw[bne,hne];rfl
       clear T1 hp HP0;go_wp2_with(go_at_call 48;refine HK.mono ?_;rintro e w1 ⟨rfl,rfl⟩);go_ret;exact⟨BQ HA2.symm,hb'⟩
     .have:i=j:=oM;subst this;have hon:AD l=false:=IR fun k h=>hp.out k h (by rw[<-HN.out];exact h);have HC4:Hid (At l=if B6 l>65536 then 102 else 0):=by show _=_;rw[HC3.out,hon];rfl
      have K1:=KT.out _ (HRD.below hb');obtain⟨T,hT⟩:=gA (B6 l)
      rw[hT]at HC4 K1;have HK:Hid (Calls prog 49 #[.slice p i c] _ fun e w'=>e=.returned (.int .i64 T)/\Below _ _ w'):=K1;clear K1 hT hp hon HC3;by_cases h6:T>65536
      .have HC5:Hid (At l=102):=by show _=_;rw[HC4.out,if_pos h6]
       have h6':(65536:Int)<T:=h6;exact LK
      .have HC5:Hid (At l=0):=by show _=_;rw[HC4.out,if_neg h6]
       have h6':¬ (65536:Int)<T:=h6;exact LK
 .have h64':(64:Int)<(n:Int):=oM;have HC2:Hid (At l=2):=by show _=_;rw[HC.out,if_pos oM]
  clear HC;go_enter func32,ntmps32;go_wp2;go_ret;exact⟨BQ HC2.symm,BH _⟩




def V(p k:Nat):Nat:=if k<2^p then k else(2^p+k%2^p)*2^(k/2^p-1)
def JC(p:Nat)(L:Int)(mag:Nat)(place:Int):Nat:=
 if mag=0 then 0 else
 (max (place+mag.log2-p) L-L).toNat*2^p+Ieee.Toward.even.cut false (mag<<<(place-max (place+mag.log2-p) L).toNat) (max (place+mag.log2-p) L-place).toNat
def ng(a:Nat):Bool:=a/2147483648%2==1
def rg(a:Nat):Nat:=a%2147483648
def mv(a:Nat):Nat:=V 23 (rg a)
def sg(s:Bool)(m:Nat):Int:=if s then -(m:Int)else m
def sv(a:Nat):Int:=sg (ng a) (mv a)
def R(n:Nat):Nat:=JC 23 (-149) n (-149)

end Go.Proofs.Ytjglaibglofddaa
