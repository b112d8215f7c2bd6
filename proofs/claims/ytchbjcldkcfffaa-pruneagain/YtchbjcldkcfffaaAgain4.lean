import Derived.Test.YtchbjcldkcfffaaAgain2
import Derived.Shelf.Small.Bits
import Derived.Deep.OwnRows
import Derived.Test.YtchbjcldkcfffaaAgain3
import Derived.Maps.OwnSet
import Derived.Test.YtchbjcldkcfffaaAgain1
import Derived.Lib.LazyBuf
import Derived.Deep.DeepCutAuto
import Derived.Deep.AppendLies
namespace Go.Proofs.Ytchbjcldkcfffaa
open Go.RowKit Go.Proofs.Try
set_option linter.all false
set_option maxRecDepth 100000
set_option maxHeartbeats 16000000
section
open Go.RowKit Go.Shelf Go.Proofs.Try
end

structure Hd where
 pats:List Int
 whole:Int
structure Fr where
 Mi:Nat->Int
 whs:Nat->Int
 vecs:Nat->List Int
 slots:List Hd
 outs:Nat->Nat->Int
def lenOf(c:Cd)(p:Int):Nat:=((c.sign[p.toNat]?).map fun q=>q.len.toNat).getD 0
def Lq(vs:List (List Int))(p:Nat):List Int:=(vs[p]?).getD []
def lF(args:List (List Int))(i:Nat):Nat:=(Lq args i).length
structure Un(U:Nat->Prop)(w w':World):Prop where
 os:w'.os=w.os
 tape:w'.tape=w.tape
 output:w'.output=w.output
 size:w.heap.size<=w'.heap.size
 block:∀b,b<w.heap.size->¬U b->w'.heap[b]? =w.heap[b]?
section
variable {U T : Nat -> Prop} {w w' w'' : World}
theorem Un.of(h:Below w.heap.size w w'):Un U w w':=⟨h.os,h.tape,h.output,h.size,fun b hb _=>h.block b hb⟩
theorem Un.below{B:Nat}(h:Un U w w')(hB:B<=w.heap.size)(k:∀b,U b->B<=b):Below B w w':=
 ⟨h.os,h.tape,h.output,h.size,fun b hb=>h.block b oM fun q=>by have:=k b q;omega⟩
theorem Un.setCell(h:Un U w w'){p:Addr}(hp:U p.block)(x:Value):Un U w (w'.setCell p x):=
 ⟨h.os,h.tape,h.output,by simpa[World.setCell]using h.size,fun b hb hu=>by
  have hne:b≠p.block:=fun e=>hu (by rw[e];exact hp)
  rw[Below.heap_setCell _ _ _ _ (by exact hne)];exact h.block b hb hu⟩
end
def Kr{α:Type}(T:Nat->Prop)(k:Nat)(f:α->List Value)(w:World)(v:Value)(l:List α):Prop:=
 ∃p c,v=.slice p l.length c/\(l=[]\/∃b o,p=some ⟨b,o,none⟩/\¬T b/\b<w.heap.size/\∀i (h:i<l.length),Ae w b (o+i*k) (f l[i]))
section
variable {α : Type} {T U : Nat -> Prop} {k : Nat} {f : α -> List Value} {w w' : World} {v : Value} {l : List α}
end
structure LO where
 C:Nat
 S:Nat
 FR:Nat
 NB:Nat
 WB:Nat
 MB:Nat
 UB:Nat
 K:Nat
 ub:Nat->Nat
 sp:Option Addr
 sc:Nat
 v0:Value
 v1:Value
 v2:Value
 v3:Value
 gv:Value
 pv:Value

section
variable {T : Nat -> Prop} {E E' : Nat} {a : LO} {c : Cd} {G P : List (List Int)} {w w' : World} {X : Nat -> Value} {M : Nat} {m : Nat -> Option Value} {f : Fr}
end
theorem Mf(c:Int)(h0:0<=c)(h1:c<=255):(0<=Lib.indexByte (⟨#[95,46,47,45]⟩:ByteArray).data.toList c.toNat.toUInt8)↔(c=95\/c=46\/c=47\/c=45):=by
 obtain⟨k,rfl⟩:∃k:Nat,c=k:=⟨c.toNat,oM⟩
 have hk:k<256:=oM;have Cj:∀k:Fin 256,(0<=Lib.indexByte [95,46,47,45] k.val.toUInt8)↔((k.val:Int)=95\/(k.val:Int)=46\/(k.val:Int)=47\/(k.val:Int)=45):=by decide+kernel
 exact Cj ⟨k,hk⟩
theorem G7(c:Int)(h0:0<=c)(h1:c<=255)(w:World):
 Calls prog 82 #[.int .u8 c] w fun e w'=>e=.returned (.bool (Hl c))/\w'=w:=by
 have hX:=Mf c h0 h1;have K:=fun w=>CC ⟨#[95,46,47,45]⟩ c w;obtain⟨x,hx⟩:∃x,Lib.indexByte (⟨#[95,46,47,45]⟩:ByteArray).data.toList c.toNat.toUInt8=x:=⟨_,rfl⟩
 rw[hx]at hX;simp only[hx]at K;have HK:Hid (∀w,Calls prog 84 #[.string ⟨#[95,46,47,45]⟩,.int .u8 c] w fun e w'=>e=.returned (.int .i64 x)/\w'=w):=K;clear K hx;have HP:Hid (∀b:Bool,(b=true↔(97<=c/\c<=122\/65<=c/\c<=90\/48<=c/\c<=57\/0<=x))->b=Hl c):=fun b hb=>by
  rw[Bool.eq_iff_iff,hb];unfold Hl;simp only[Bool.or_eq_true,Bool.and_eq_true,decide_eq_true_eq,beq_iff_eq];omega
 have hcl:(c<48)\/(48<=c/\c<=57)\/(57<c/\c<65)\/(65<=c/\c<=90)\/(90<c/\c<97)\/(97<=c/\c<=122)\/(122<c):=oM;rcases hcl with h|h|h|h|h|h|h
 ·have a1:¬ (65:Int)<=c:=oM;have a2:¬ (97:Int)<=c:=oM;have a3:¬ (48:Int)<=c:=oM;by_cases hx0:0<=x
  all_goals
   exact Ks
 ·have a1:¬ (65:Int)<=c:=oM;have a2:¬ (97:Int)<=c:=oM;have a3:(48:Int)<=c:=oM;have a4:c<=(57:Int):=oM;exact Ks
 ·have a1:¬ (65:Int)<=c:=oM;have a2:¬ (97:Int)<=c:=oM;have a3:(48:Int)<=c:=oM;have a4:¬c<=(57:Int):=oM;by_cases hx0:0<=x
  all_goals
   exact Ks
 ·have a1:(65:Int)<=c:=oM;have a2:¬ (97:Int)<=c:=oM;have a3:(48:Int)<=c:=oM;have a4:¬c<=(57:Int):=oM;have a5:c<=(90:Int):=oM;exact Ks
 ·have a1:(65:Int)<=c:=oM;have a2:¬ (97:Int)<=c:=oM;have a3:(48:Int)<=c:=oM;have a4:¬c<=(57:Int):=oM;have a5:¬c<=(90:Int):=oM;by_cases hx0:0<=x
  all_goals
   exact Ks
 ·have a1:(65:Int)<=c:=oM;have a2:(97:Int)<=c:=oM;have a3:(48:Int)<=c:=oM;have a4:¬c<=(57:Int):=oM;have a5:¬c<=(90:Int):=oM;have a6:c<=(122:Int):=oM;exact Ks
 ·have a1:(65:Int)<=c:=oM;have a2:(97:Int)<=c:=oM;have a3:(48:Int)<=c:=oM;have a4:¬c<=(57:Int):=oM;have a5:¬c<=(90:Int):=oM;have a6:¬c<=(122:Int):=oM;by_cases hx0:0<=x
  all_goals
   exact Ks
theorem Ga(s:ByteArray)(hs:s.size<=140737488351232)(w:World):
 Calls prog 72 #[.string s] w fun e w'=>e=.returned (.bool (Bh s))/\w'=w:=by
 by_cases h0:s.size=0
 ·have he:s.toList.isEmpty=true:=by rw[D3];simp[h0]
  have he2:(s.toList==[])=true:=by rw[DZ];simp[h0]
  have hf:Bh s=false:=by unfold Bh;simp[h0]
  rw[hf];go_enter func72,ntmps72;go_wp2
  all_goals(go_ret;exact⟨rfl,rfl⟩)
 ·have he:s.toList.isEmpty=false:=by rw[D3];simp[h0]
  have he2:(s.toList==[])=false:=by rw[DZ];simp[h0]
  by_cases h64:s.size<=64
  ·have h64':¬ ((64:Int)<(s.size:Int)):=oM;go_enter func72,ntmps72;go_wp2
   go_loopw [13] (fun iv wr=>wr=w/\∃j:Nat,j<=s.size/\iv=.int .i64 j/\Hid (∀i (h:i<s.size),i<j->Hl (s[i].toNat:Int)=true)) (fun iv _=>s.size-(intOf iv).toNat)
   case atStart=>exact⟨rfl,0,Nat.zero_le _,rfl,fun i h hi=>absurd hi (Nat.not_lt_zero _)⟩
   case round=>
    obtain⟨rfl,j,hj,rfl,hp⟩:=hrel;by_cases hlt:j<s.size
    ·have i1:(0:Int)<=(j:Int):=oM;have i2:(j:Int)<(s.size:Int):=oM;have hc2:(s[j].toNat:Int)<=255:=by have:=s[j].toNat_lt;omega
     have K:=fun w=>G7 (s[j].toNat:Int) oM hc2 w;have NX:Hid (Hl (s[j].toNat:Int)=true->∀i (h:i<s.size),i<j+1->Hl (s[i].toNat:Int)=true):=fun hq i h hi=>by
      exact Lc
     have NB:Hid (Hl (s[j].toNat:Int)=false->Bh s=false):=fun h=>Hh hlt h;obtain⟨N,hN⟩:∃N,Hl (s[j].toNat:Int)=N:=⟨_,rfl⟩
     rw[hN]at NX NB;simp only[hN]at K;have HK:Hid (∀w,Calls prog 82 #[.int .u8 (s[j].toNat:Int)] w fun e w'=>e=.returned (.bool N)/\w'=w):=K;clear K hN hp hc2;cases N
     ·go_wp2_with(go_at_call 82;refine(HK.out _).mono ?_;rintro e w1 ⟨rfl,rfl⟩);go_ret;exact⟨Af (NB.out sM).symm,fT⟩
     ·go_wp2_with(go_at_call 82;refine(HK.out _).mono ?_;rintro e w1 ⟨rfl,rfl⟩);go_roundw
      case rel=>exact⟨fT,j+1,oM,gN,NX.out sM⟩
      case measure=>simp[intOf];omega
    ·have:j=s.size:=oM;subst this;have HF:Hid (Bh s=true):=Gh h0 h64 fun i h=>hp.out i h h;clear hp;go_wp2;go_ret;exact⟨Af HF.out.symm,rfl⟩
  ·have h64':(64:Int)<(s.size:Int):=oM;have hf:Bh s=false:=by unfold Bh;simp[h64]
   rw[hf];go_enter func72,ntmps72;go_wp2
   all_goals(go_ret;exact⟨rfl,rfl⟩)
theorem DX(p:Ba)(hs:p.name.size<=140737488351232)(w:World):
 Calls prog 53 #[pv p] w fun e w'=>e=.returned (.bool (!Bm p))/\Below w.heap.size w w':=by
 rw[Ie];obtain⟨X,K,L⟩:=p;unfold pv;have KN:=Ga X hs;simp only;obtain⟨N,hN⟩:∃N,Bh X=N:=⟨_,rfl⟩
 rw[hN]at KN ⊢;have HK:Hid (∀w,Calls prog 72 #[.string X] w fun e w'=>e=.returned (.bool N)/\w'=w):=KN;clear KN hN;have hk:((K==1)=true/\(K==2)=false)\/((K==1)=false/\(K==2)=true)\/((K==1)=false/\(K==2)=false):=by
  by_cases a:K=1
  ·subst a;exact .inl ⟨rfl,rfl⟩
  ·by_cases b:K=2
   ·subst b;exact .inr (.inl ⟨rfl,rfl⟩)
   ·exact .inr (.inr ⟨by simpa using a,by simpa using b⟩)
 have hL:(1<=L/\L<=4096)\/(¬1<=L/\L<=4096)\/(1<=L/\¬L<=4096):=oM;cases N<;>rcases hk with⟨h1,h2⟩|⟨h1,h2⟩|⟨h1,h2⟩<;>rcases hL with⟨h3,h4⟩|⟨h3,h4⟩|⟨h3,h4⟩
 all_goals
  go_enter func53,ntmps53;go_wp2_with(go_at_call 72;refine(HK.out _).mono ?_;rintro e w1 ⟨rfl,rfl⟩);go_ret;exact⟨Af (by simp[h1,h2,h3,h4]),A0 _ _⟩
theorem F1(p:Ba)(hs:p.name.size<=140737488351232)(w:World):
 Calls prog 73 #[pv p] w fun e w'=>e=.returned (.int .i64 (Es p))/\Below w.heap.size w w':=by
 have KM:=DX p hs;have hm:Bm p=true->1<=p.len/\p.len<=4096:=fun h=>by rw[Ie]at h;simp at h;exact h.2
 have hn:Es p=if Bm p then(if p.kind==2 then 2*p.len else p.len)else 0:=rfl;rw[hn];clear hn;obtain⟨N,hN⟩:∃N,Bm p=N:=⟨_,rfl⟩
 rw[hN]at KM hm ⊢;clear hN hs;obtain⟨X,K,L⟩:=p;unfold pv at KM ⊢;simp only at hm KM ⊢;have HK:Hid (∀w,Calls prog 53 #[.agg #[.string X,.int .i64 K,.int .i64 L]] w fun e w'=>e=.returned (.bool (!N))/\Below w.heap.size w w'):=KM;clear KM;cases N
 ·clear hm;go_enter func73,ntmps73;go_wp2_with(go_at_call 53;refine(HK.out _).mono ?_;rintro e w1 ⟨rfl,hb1⟩);go_ret;exact⟨rfl,bel (A0 _ _) hb1⟩
 ·have hL:=hm rfl;clear hm;cases h2:(K==2)
  ·go_enter func73,ntmps73;go_wp2_with(go_at_call 53;refine(HK.out _).mono ?_;rintro e w1 ⟨rfl,hb1⟩;have c1:w1.cell? ⟨w.heap.size,1,none⟩=some (.int .i64 K):=(hb1.cell sM).trans sG;have c2:w1.cell? ⟨w.heap.size,2,none⟩=some (.int .i64 L):=(hb1.cell sM).trans sG);go_ret;exact⟨rfl,bel (A0 _ _) hb1⟩
  ·have hw:IntKind.i64.wrap (2*L)=2*L:=by rw[IntKind.wrap_i64];omega
   go_enter func73,ntmps73;go_wp2_with(go_at_call 53;refine(HK.out _).mono ?_;rintro e w1 ⟨rfl,hb1⟩;have c1:w1.cell? ⟨w.heap.size,1,none⟩=some (.int .i64 K):=(hb1.cell sM).trans sG;have c2:w1.cell? ⟨w.heap.size,2,none⟩=some (.int .i64 L):=(hb1.cell sM).trans sG);go_ret;exact⟨GS sM,bel (A0 _ _) hb1⟩
theorem Gr(v:Value)(l:List Ba)(hl:l.length<=140737488351232)(hM:∀p∈l,p.name.size<=140737488351232)(w:World)(hr:Rd w v l):
 Calls prog 55 #[v] w fun e w'=>e=.returned (.int .i64 (Cf l))/\Below w.heap.size w w':=by
 obtain⟨p,c,rfl,hr⟩:=hr;obtain⟨n,hn⟩:∃n,l.length=n:=⟨_,rfl⟩
 rw[hn]at hl ⊢;have HN:Hid (l.length=n):=hn;have HR:Hid (Jw w p l):=hr;have HM:Hid (∀p∈l,p.name.size<=140737488351232):=hM;clear hn hr hM;go_enter func55,ntmps55;go_wp2
 go_loopw [3,8] (fun tv iv wr=>Below w.heap.size w wr/\∃j:Nat,j<=n/\iv=.int .i64 j/\tv=.int .i64 (Cf (l.take j))) (fun _ iv _=>n-(intOf iv).toNat)
 case atStart=>exact⟨D0 w,0,Nat.zero_le _,rfl,rfl⟩
 case round=>
  obtain⟨hb,j,hj,rfl,rfl⟩:=hrel;by_cases hlt:j<n
  ·have hll:j<l.length:=by rw[HN.out];exact hlt
   obtain⟨b,o,rfl,hx⟩:=HR.out.at hll;obtain⟨x0,x1,x2⟩:=hx.below hb;have i1:(0:Int)<=(j:Int):=oM;have i2:(j:Int)<(n:Int):=oM;have KN:=F1 l[j] (HM.out _ (List.getElem_mem hll));unfold pv at KN;have HK:Hid (∀w,Calls prog 73 #[.agg #[.string l[j].name,.int .i64 l[j].kind,.int .i64 l[j].len]] w fun e w'=>e=.returned (.int .i64 (Es l[j]))/\Below w.heap.size w w'):=KN;have ht:Cf (l.take (j+1))=Cf (l.take j)+Es l[j]:=by rw[EM hll,Jq]
   have hb1:=Em (l.take j);have hb2:=E0 l[j];rw[List.length_take,HN.out,Nat.min_eq_left hj]at hb1;obtain⟨T,hT⟩:∃T,Cf (l.take j)=T:=⟨_,rfl⟩
   obtain⟨U,hU⟩:∃U,Es l[j]=U:=⟨_,rfl⟩
   rw[hT,hU]at ht;rw[hT]at hb1 ⊢;rw[hU]at hb2 HK;have HT:Hid (Cf (l.take (j+1))=T+U):=ht;have hw1:IntKind.i64.wrap (T+U)=T+U:=by rw[IntKind.wrap_i64];omega
   clear KN ht hT hU hx;go_wp2_with(go_at_call 73;refine(HK.out _).mono ?_;rintro e w1 ⟨rfl,hb3⟩);go_roundw
   case rel=>exact⟨bel (bel hb gG) hb3,j+1,oM,gN,by rw[HT.out]⟩
   case measure=>simp[intOf];omega
  ·have:j=n:=oM;subst this;have HF:Hid (Cf (l.take j)=Cf l):=by show _=_;rw[List.take_of_length_le (by rw[HN.out];exact Nat.le_refl _)]
   go_wp2;go_ret;exact⟨GS HF.out,hb⟩
structure Good(c:Cd):Prop where
 len:∀p∈c.sign,1<=p.len/\p.len<=4096
 kind:∀p∈c.sign,Bm p=true
 regs:∀t∈c.regs,AP t c.sign.length=true
 slots:∀s∈c.slots,BI s c.sign.length=true
 regsL:c.regs.length<=16384
 slotsL:c.slots.length<=4096
 listL:c.list.length<=32768
 signL:c.sign.length<=64
section
variable {T : Nat -> Prop} {E E' : Nat} {a : LO} {c : Cd} {G P : List (List Int)} {w : World}
end
section
open Go.RowKit Go.Maps Go.Proofs.Try
theorem Eo(v:Value)(l:List Ba)(hl:l.length<=140737488351232)(hM:∀p∈l,p.name.size<=140737488351232)(w:World)(hr:Rd w v l):
 Calls prog 71 #[v,.func (.func 53) #[] #[]] w fun e w'=>(∃x:Int,e=.returned (.int .i64 x)/\-1<=x/\(0<=x↔l.all Bm=false))/\Below w.heap.size w w':=by
 obtain⟨p,c,rfl,hr⟩:=hr;obtain⟨n,hn⟩:∃n,l.length=n:=⟨_,rfl⟩
 rw[hn]at hl ⊢;have HN:Hid (l.length=n):=hn;have HR:Hid (Jw w p l):=hr;have HM:Hid (∀p∈l,p.name.size<=140737488351232):=hM;clear hn hr hM;go_enter func71,ntmps71;go_wp2
 go_loopw [8] (fun iv wr=>Below w.heap.size w wr/\∃j:Nat,j<=n/\iv=.int .i64 j/\Hid (∀i (h:i<l.length),i<j->Bm l[i]=true)) (fun iv _=>n-(intOf iv).toNat)
 case atStart=>exact⟨D0 w,0,Nat.zero_le _,rfl,fun i h hi=>absurd hi (Nat.not_lt_zero _)⟩
 case round=>
  obtain⟨hb,j,hj,rfl,hp⟩:=hrel;by_cases hlt:j<n
  ·have hll:j<l.length:=by rw[HN.out];exact hlt
   obtain⟨b,o,rfl,hx⟩:=HR.out.at hll;obtain⟨x0,x1,x2⟩:=hx.below hb;have i1:(0:Int)<=(j:Int):=oM;have i2:(j:Int)<(n:Int):=oM;have KN:=DX l[j] (HM.out _ (List.getElem_mem hll));unfold pv at KN;have NX:Hid (Bm l[j]=true->∀i (h:i<l.length),i<j+1->Bm l[i]=true):=fun hq i h hi=>by
    exact Lc
   have NB:Hid (Bm l[j]=false->l.all Bm=false):=fun h=>List.all_eq_false.2 ⟨l[j],List.getElem_mem hll,by rw[h];decide⟩;obtain⟨N,hN⟩:∃N,Bm l[j]=N:=⟨_,rfl⟩
   rw[hN]at NX NB;simp only[hN]at KN;have HK:Hid (∀w,Calls prog 53 #[.agg #[.string l[j].name,.int .i64 l[j].kind,.int .i64 l[j].len]] w fun e w'=>e=.returned (.bool (!N))/\Below w.heap.size w w'):=KN;clear KN hN hp hx;cases N
   ·go_wp2_with(go_at_call 53;refine(HK.out _).mono ?_;rintro e w1 ⟨rfl,hb3⟩);go_ret;exact⟨⟨_,rfl,oM,⟨fun _=>NB.out sM,fun _=>by omega⟩⟩,bel hb hb3⟩
   ·go_wp2_with(go_at_call 53;refine(HK.out _).mono ?_;rintro e w1 ⟨rfl,hb3⟩);go_roundw
    case rel=>exact⟨bel hb hb3,j+1,oM,gN,NX.out sM⟩
    case measure=>simp[intOf];omega
  ·have:j=n:=oM;subst this;have HF:Hid (l.all Bm=true):=List.all_eq_true.2 fun q hq=>by
    obtain⟨i,hi,rfl⟩:=List.mem_iff_getElem.1 hq;exact hp.out i hi (by rw[←HN.out];exact hi)
   clear hp;go_wp2;go_ret;exact⟨⟨_,rfl,oM,⟨fun h=>absurd h oM,fun h=>absurd h (by rw[HF.out];decide)⟩⟩,hb⟩
theorem EO(v:Value)(l:List Ba)(hl:l.length<=140737488351232)(hM:∀p∈l,p.name.size<=140737488351232)(w:World)(hr:Rd w v l):
 Calls prog 52 #[v,.func (.func 53) #[] #[]] w fun e w'=>e=.returned (.bool (!l.all Bm))/\Below w.heap.size w w':=by
 have HK:Hid (Calls prog 71 #[v,.func (.func 53) #[] #[]] w fun e w'=>(∃x:Int,e=.returned (.int .i64 x)/\-1<=x/\(0<=x↔l.all Bm=false))/\Below w.heap.size w w'):=Eo v l hl hM w hr;obtain⟨N,hN⟩:∃N,l.all Bm=N:=⟨_,rfl⟩
 rw[hN]at HK ⊢;clear hN;go_enter func52,ntmps52;go_wp2_with(go_at_call 71;refine HK.out.mono ?_;rintro e w1 ⟨⟨x,rfl,hx1,hx2⟩,hb1⟩;have HX:Hid (0<=x↔N=false):=hx2;clear hx2);go_ret;refine⟨Af ?_,hb1⟩;have:=HX.out;cases N
 ·simp only[Bool.not_false,decide_eq_true_eq];exact this.2 rfl
 ·simp only[Bool.not_true,decide_eq_false_iff_not];intro h;exact absurd (this.1 h) dE
end

section
open Go.RowKit Go.Maps Go.WideMaps Go.Proofs.Try
def CP(s:ByteArray):Lit:=.string s.data.toList
theorem Fg{a b:ByteArray}(h:CP a=CP b):a=b:=by
 unfold CP at h;injection h with h;exact Kx h
theorem BK(s:ByteArray):∀ (l:List Ba) (p:Ba),Bd s (l++[p])=match Bd s l with |some i=>some i|none=>if p.name=s then some l.length else none
 |[],p=>by simp[Bd]
 |q::l,p=>by
  rw[List.cons_append];simp only[Bd];by_cases h:q.name=s
  ·rw[if_pos h,if_pos h]
  ·rw[if_neg h,if_neg h,BK s l p];cases Bd s l with
   |some i=>rfl
   |none=>
    simp only[Option.map_none];split
    ·rfl
    ·rfl
theorem Fe(s:ByteArray):∀ (l:List Ba),(Bd s l).isSome=l.any fun q=>decide (q.name=s)
 |[]=>rfl
 |q::l=>by
  simp only[Bd,List.any_cons];by_cases h:q.name=s
  ·rw[if_pos h];simp[h]
  ·rw[if_neg h,Option.isSome_map,Fe s l];simp[h]
theorem Cg:∀ (l:List Ba) (p:Ba),Bp (l++[p])=(Bp l||(Bd p.name l).isSome)
 |[],p=>rfl
 |q::l,p=>by
  rw[List.cons_append];simp only[Bp,List.any_append,List.any_cons,List.any_nil,Cg l p,Fe];have e:decide (p.name=q.name)=decide (q.name=p.name):=by rw[decide_eq_decide];exact eq_comm
  rw[e];cases(l.any fun r=>decide (r.name=q.name))<;>cases(Bp l)<;>cases(decide (q.name=p.name))<;>cases(l.any fun r=>decide (r.name=p.name))<;>rfl
structure BU(l:List Ba)(D:DataW Unit):Prop where
 has:∀s,Maps.has D (CP s)=(Bd s l).isSome
 val:∀s i z,Bd s l=some i->D.atKey (CP s) z=.lit (.int .i64 (i:Int))
 no:Bp l=false->Maps.size D=l.length
 yes:Bp l=true->Maps.size D<l.length
theorem G2:BU [] (.map []):=⟨fun _=>rfl,fun s i z h=>by simp[Bd]at h,fun _=>rfl,fun h=>by simp[Bp]at h⟩
theorem G3{l:List Ba}{D:DataW Unit}(h:BU l D){p:Ba}(hh:Maps.has D (CP p.name)=true):BU (l++[p]) D:=by
 have hp:(Bd p.name l).isSome=true:=by rw[←h.has];exact hh
 have hf:∀s,Bd s (l++[p])=Bd s l:=fun s=>by
  rw[BK];cases e:Bd s l with
  |some i=>rfl
  |none=>
   simp only;rw[if_neg];rintro rfl;rw[e]at hp;exact absurd hp dE
 have hle:Maps.size D<=l.length:=by
  cases e:Bp l
  ·exact Nat.le_of_eq (h.no e)
  ·exact Nat.le_of_lt (h.yes e)
 refine⟨fun s=>by rw[hf];exact h.has s,fun s i z e=>h.val s i z (by rw[←hf];exact e),fun e=>?_,fun e=>?_⟩
 ·rw[Cg,hp,Bool.or_true]at e;exact absurd e dE
 ·simp only[List.length_append,List.length_cons,List.length_nil];omega
theorem G1{l:List Ba}{D:DataW Unit}(h:BU l D)(ht:Tidy D){p:Ba}(hh:Maps.has D (CP p.name)=false):BU (l++[p]) (D.put (CP p.name) (.lit (.int .i64 (l.length:Int)))):=by
 have hp:(Bd p.name l).isSome=false:=by rw[←h.has];exact hh
 have hpn:Bd p.name l=none:=by simpa using hp
 have hsz:Maps.size (D.put (CP p.name) (.lit (.int .i64 (l.length:Int))))=Maps.size D+1:=by rw[size_put ht,hh];rfl
 refine⟨fun s=>?_,fun s i z e=>?_,fun e=>?_,fun e=>?_⟩
 ·by_cases hs:s=p.name
  ·subst hs;rw[has_put_same ht.isMap (show WideAt.IsKeyLit (CP p.name)from trivial),BK,hpn];simp
  ·rw[has_put_other (fun e=>hs (Fg e)),h.has,BK];cases e:Bd s l with
   |some i=>rfl
   |none=>simp only;rw[if_neg (fun e=>hs e.symm)]
 ·by_cases hs:s=p.name
  ·subst hs;rw[BK,hpn]at e;simp at e;subst e;exact atKey_put_same ht.isMap (show WideAt.IsKeyLit (CP p.name)from trivial) _ _
  ·rw[atKey_put_other (fun e=>hs (Fg e))];refine h.val s i z ?_;rw[BK]at e;cases e2:Bd s l with
   |some j=>rw[e2]at e;exact e
   |none=>rw[e2]at e;simp only at e;rw[if_neg (fun e=>hs e.symm)]at e;exact absurd e sM
 ·rw[Cg,hp,Bool.or_false]at e;rw[hsz,h.no e];simp
 ·rw[Cg,hp,Bool.or_false]at e;have:=h.yes e;rw[hsz];simp only[List.length_append,List.length_cons,List.length_nil];omega
theorem JK:Keyed prog 9:=string_keyed underlying9
theorem Kp(w:World):(zeroValue 3).run prog w=.ok (.int .i64 0) w:=kR
def Co(w:World)(b n:Nat)(D:DataW Unit):Prop:=w.ownsMap prog 9 (plainElem prog 3) b n D
theorem Co.below{w w':World}{b n:Nat}{D:DataW Unit}(h:Co w b n D)(k:Below w.heap.size w w'):Co w' b n D:=
 World.ownsMap.kept h (row:=none) ⟨k.os,k.tape,k.output,k.size,fun j hj _=>k.block j hj⟩ sM
theorem G0(v:Value)(l:List Ba)(hl:l.length<=140737488351232)(hM:∀p∈l,p.name.size<=140737488351232)(w:World)(hr:Rd w v l):
 Calls prog 54 #[v] w fun e w'=>∃D,e=.returned (.map (some w.heap.size))/\Co w' w.heap.size l.length D/\BU l D/\Below w.heap.size w w':=by
 obtain⟨p,c,rfl,hr⟩:=hr;obtain⟨n,hn⟩:∃n,l.length=n:=⟨_,rfl⟩
 rw[hn]at hl ⊢;have HN:Hid (l.length=n):=hn;have HR:Hid (Jw w p l):=hr;have HM:Hid (∀p∈l,p.name.size<=140737488351232):=hM;clear hn hr hM;have hmm:=@run_makeMap prog;go_enter func54,ntmps54;go_wp2
 go_loopw [11] (fun iv wr=>Below w.heap.size w wr/\∃j:Nat,j<=n/\iv=.int .i64 j/\∃D,Hid (Co wr w.heap.size j D/\BU (l.take j) D)) (fun iv _=>n-(intOf iv).toNat)
 case atStart=>exact⟨A0 _ _,0,Nat.zero_le _,rfl,.map [],World.ownsMap_made _ _ _ _,G2⟩
 case round=>
  obtain⟨hb,j,hj,rfl,D,hD⟩:=hrel;by_cases hlt:j<n
  ·have hll:j<l.length:=by rw[HN.out];exact hlt
   obtain⟨b,o,rfl,hx⟩:=HR.out.at hll;obtain⟨x0,x1,x2⟩:=hx.below hb;have i1:(0:Int)<=(j:Int):=oM;have i2:(j:Int)<(n:Int):=oM;have hkey:keyOf prog 9 (.string l[j].name)=some (CP l[j].name):=keyOf_string_mk underlying9 (by have:=HM.out _ (List.getElem_mem hll);unfold maxLen;omega);have HT:Hid (l.take (j+1)=l.take j++[l[j]]/\(l.take j).length=j):=⟨EM hll,by rw[List.length_take];omega⟩
   have hwf:(Lit.int .i64 (j:Int)).wf=true:=WalkArith.wf_i64 oM;have hown:Hid (Co (wr.alloc (.cells #[.string l[j].name,.int .i64 l[j].kind,.int .i64 l[j].len] 42)) w.heap.size j D):=hD.out.1.below (A0 _ _);have HF:Hid (BU (l.take j) D):=hD.out.2;clear hD hx;cases hsn:Maps.has D (CP l[j].name)
   ·have HS:Hid (Maps.has D (CP l[j].name)=false):=hsn;have tok:True:=trivial;clear hsn;go_wp2_with(first
     |(at_lookup;have _t:=tok;refine wpList_lookup_own_ok_int _ rfl _ _ 111 rfl 9 3 .i64 JK underlying111 underlying3 (Kp _) w.heap.size j D rfl hown.out _ _ rfl hkey ?_;intro c hat hwc;rw[HS.out];clear hat hwc tok)
     |(at_mapUpdate;refine wpList_mapUpdate_own _ rfl _ _ _ 111 rfl 9 3 JK underlying111 _ w.heap.size j D rfl hown.out mL _ _ _ rfl rfl hkey _ [] (plainElem_int underlying3 hwf) ?_;intro w1 hown1 hgrow1;have H1:Hid (Co w1 w.heap.size (j+1) (D.put (CP l[j].name) (.lit (.int .i64 (j:Int))))/\World.grownBy _ w1 (some w.heap.size)):=⟨hown1,hgrow1⟩;clear hown1 hgrow1))
    go_roundw
    case rel=>
     refine⟨?_,j+1,oM,gN,_,H1.out.1,?_⟩
     ·exact Below.grown (bel hb (A0 _ _)) H1.out.2 (by have:=hb.size;simp;omega) (fun k e=>by cases e;exact Nat.le_refl _)
     ·rw[HT.out.1];have:=G1 HF.out (World.ownsMap.tidy hown.out JK) HS.out;rw[HT.out.2]at this;exact this
    case measure=>simp[intOf];omega
   ·have HS:Hid (Maps.has D (CP l[j].name)=true):=hsn;clear hsn;go_wp2_with(at_lookup;refine wpList_lookup_own_ok_int _ rfl _ _ 111 rfl 9 3 .i64 JK underlying111 underlying3 (Kp _) w.heap.size j D rfl hown.out _ _ rfl hkey ?_;intro c hat hwc;rw[HS.out];clear hat hwc);go_roundw
    case rel=>
     refine⟨bel hb (A0 _ _),j+1,oM,gN,D,World.ownsMap.mono hown.out (Nat.le_succ _),?_⟩;rw[HT.out.1];exact G3 HF.out HS.out
    case measure=>simp[intOf];omega
  ·have:j=n:=oM;subst this;have HF:Hid (Co wr w.heap.size j D/\BU l D):=⟨hD.out.1,by have:=hD.out.2;rw[List.take_of_length_le (by rw[HN.out];exact Nat.le_refl _)]at this;exact this⟩
   clear hD;go_wp2;go_ret;exact⟨D,rfl,HF.out.1,HF.out.2,hb⟩
end
theorem B9(w:World):Below w.heap.size w w.drew:=(Below.refl _ _).drew
section
variable {T : Nat -> Prop} {E E' : Nat} {a : LO} {c : Cd} {G P : List (List Int)} {X : Nat -> Value} {M : Nat} {m : Nat -> Option Value} {f : Fr} {w w1 w2 : World}
end

section
open Go.RowKit Go.Maps Go.WideMaps Go.Proofs.Try
theorem Gq(v:Value)(l:List Ba)(hl:l.length<=140737488351232)(hM:∀p∈l,p.name.size<=140737488351232)(w:World)(hr:Rd w v l):
 Calls prog 38 #[v] w fun e w'=>e=.returned (.int .i64 (BV l))/\Below w.heap.size w w':=by
 have K1:=EO v l hl hM w hr;have K2:=fun w h=>G0 v l hl hM w h;have K3:=fun w h=>Gr v l hl hM w h;have HR:Hid (Rd w v l):=hr;have htb:=Em l;unfold BV;obtain⟨p,c,rfl,_⟩:=hr;obtain⟨n,hn⟩:∃n,l.length=n:=⟨_,rfl⟩
 obtain⟨N,hN⟩:∃N,l.all Bm=N:=⟨_,rfl⟩
 obtain⟨T,hT⟩:∃T,Cf l=T:=⟨_,rfl⟩
 rw[hn]at K1 K2 K3 HR hl htb ⊢;rw[hN]at K1 ⊢;rw[hT]at htb ⊢;simp only[hT]at K3;have HK1:Hid (Calls prog 52 #[.slice p n c,.func (.func 53) #[] #[]] w fun e w'=>e=.returned (.bool (!N))/\Below w.heap.size w w'):=K1;have HK2:Hid (∀w,Rd w (.slice p n c) l->Calls prog 54 #[.slice p n c] w fun e w'=>∃D,e=.returned (.map (some w.heap.size))/\Co w' w.heap.size n D/\BU l D/\Below w.heap.size w w'):=K2;have HK3:Hid (∀w,Rd w (.slice p n c) l->Calls prog 55 #[.slice p n c] w fun e w'=>e=.returned (.int .i64 T)/\Below w.heap.size w w'):=K3;have HN:Hid (l.length=n):=hn;clear K1 K2 K3 hN hT hM hn;by_cases h64:n>64
 ·have h64':(64:Int)<(n:Int):=oM;rw[if_pos h64];clear h64;go_enter func38,ntmps38;go_wp2
  all_goals(go_ret;exact⟨rfl,D0 w⟩)
 ·have h64':¬ (64:Int)<(n:Int):=oM;rw[if_neg h64];clear h64;cases N
  ·rw[if_pos rfl];go_enter func38,ntmps38;go_wp2_with(go_at_call 52;refine HK1.out.mono ?_;rintro e w1 ⟨rfl,hb1⟩)
   all_goals(go_ret;exact⟨rfl,hb1⟩)
  ·rw[if_neg dE];cases htw:Bp l
   ·rw[if_neg dE];have HW:Hid (Bp l=false):=htw;clear htw;by_cases h3:T>65536
    ·rw[if_pos h3];have h3':(65536:Int)<T:=oM;exact Mx
    ·rw[if_neg h3];have h3':¬ (65536:Int)<T:=oM;exact Mx
   ·rw[if_pos rfl];have HW:Hid (Bp l=true):=htw;clear htw;go_enter func38,ntmps38;go_wp2_with(first
     |(go_at_call 52;refine HK1.out.mono ?_;rintro e w1 ⟨rfl,hb1⟩)
     |(go_at_call 54;refine(HK2.out _ (HR.out.below hb1)).mono ?_;rintro e w2 ⟨D,rfl,hm,hf,hb2⟩;have HM1:Hid (Co w2 w1.heap.size n D):=hm;have hs:Maps.size D<n:=(by have:=hf.yes HW.out;rw[HN.out]at this;exact this);have hs2:(Maps.size D:Int)<(n:Int):=oM;clear hm hf hs)
     |(have _t:=HM1;at_len;refine wpList_len_own _ rfl _ 111 rfl 9 3 underlying111 _ w1.heap.size n D rfl HM1.out ?_;clear HM1))
    all_goals(go_ret;exact⟨rfl,bel hb1 hb2⟩)
end

theorem En(C:Nat)(v0 v1 v2 v3:Value)(c:Cd)(hk:Bl c)(w:World)(hc:AY w C v0 v1 v2 v3 c):
 Calls prog 39 #[.pointer (some ⟨C,0,none⟩)] w fun e w'=>e=.returned (.bool (B0 c))/\Below w.heap.size w w':=by
 obtain⟨hcc,hcv⟩:=hc;have c0:=hcc.at 0 rfl;have c1:=hcc.at 1 rfl;rw[Nat.zero_add]at c0 c1;have hC:=Ac c0;simp only at hC;have hr:=hcv.regs;obtain⟨p,q,rfl,hrr⟩:=hcv.regs;obtain⟨p0,q0,rfl,hrr0⟩:=hcv.sign;have HB:=hk.regsL;have HB0:=hk.signL;unfold B0;obtain⟨M,hM⟩:∃M,c.sign.length=M:=⟨_,rfl⟩
 rw[hM]at c0 HB0 ⊢;obtain⟨l,hl⟩:∃l,c.regs=l:=⟨_,rfl⟩
 rw[hl]at c1 hr HB ⊢;obtain⟨N,hN⟩:∃N,l.length=N:=⟨_,rfl⟩
 have HN:Hid (l.length=N):=hN;rw[hN]at c1 hr HB;have HR:Hid (AI 2 DH w (.slice p N q) l):=hr;clear hl hM hN hr hrr hrr0 hcc hcv hk;go_enter func39,ntmps39;go_wp2
 go_loopw [10] (fun iv wr=>Below w.heap.size w wr/\∃j:Nat,j<=N/\iv=.int .i64 j/\Hid (∀i (h:i<l.length),i<j->AP l[i] M=true)) (fun iv _=>N-(intOf iv).toNat)
 case atStart=>exact⟨D0 w,0,Nat.zero_le _,rfl,fun i h hi=>absurd hi (Nat.not_lt_zero _)⟩
 case round=>
  obtain⟨hb,j,hj,rfl,hp⟩:=hrel;by_cases hlt:j<N
  ·have hll:j<l.length:=by rw[HN.out];exact hlt
   obtain⟨b,o,rfl,hx⟩:=HR.out.at hll;have hx':=hx.below hb;have x0:=hx'.at 0 rfl;have x1:=hx'.at 1 rfl;rw[Nat.add_zero]at x0;have z0:=kc hb c0;have hC2:=Ac z0;have hb2:=Ac x0;simp only at hC2 hb2;have n1:C≠wr.heap.size:=oM;have n2:b≠wr.heap.size:=oM;have i1:(0:Int)<=(j:Int):=oM;have i2:(j:Int)<(N:Int):=oM;have KN:=CR l[j] p0 M q0 HB0;have NX:Hid (AP l[j] M=true->∀i (h:i<l.length),i<j+1->AP l[i] M=true):=fun hq i h hi=>by
    exact Lc
   have NB:Hid (AP l[j] M=false->(l.all fun t=>AP t M)=false):=fun h=>List.all_eq_false.2 ⟨l[j],List.getElem_mem hll,by rw[h];decide⟩;obtain⟨T,hT⟩:∃T,l[j]=T:=⟨_,rfl⟩
   rw[hT]at x0 x1 KN NX NB;obtain⟨X,hX⟩:∃X,AP T M=X:=⟨_,rfl⟩
   rw[hX]at NX NB;simp only[hX]at KN;obtain⟨K,P⟩:=T;unfold CQ at KN;simp only at x0 x1 KN;have HK:Hid (∀w,Calls prog 56 #[.agg #[.int .i64 K,.int .i64 P],.slice p0 M q0] w fun e w'=>e=.returned (.bool X)/\Below w.heap.size w w'):=KN;have HC:Hid (∀v,Below (wr.alloc (.cells #[.int .i64 K,.int .i64 P] 50)).heap.size (wr.alloc (.cells #[.int .i64 K,.int .i64 P] 50)) v->v.cell? ⟨C,0,none⟩=some (.slice p0 M q0)/\v.cell? ⟨wr.heap.size,0,none⟩=some (.int .i64 K)/\v.cell? ⟨wr.heap.size,1,none⟩=some (.int .i64 P)):=
    fun v hv=>⟨kc hv (kc (A0 _ _) z0),kc hv sG,kc hv sG⟩
   have f1:=(HC.out _ (D0 _)).1;clear KN hT hX hp hx hx';cases X
   ·go_wp2;refine rG (fun v=>v.cell? ⟨C,0,none⟩=some (.slice p0 M q0)/\v.cell? ⟨wr.heap.size,0,none⟩=some (.int .i64 K)/\v.cell? ⟨wr.heap.size,1,none⟩=some (.int .i64 P)) fun hHeld=>?_;refine Tc 0 1 2 ?_;refine Tb 3 4 ?_;clear hHeld;refine Aw 5 fun K hK=>?_;go_simp;(go_at_call 56;refine(HK.out _).mono ?_;rintro e w1 ⟨rfl,hb1⟩;have HB1:=bel (Ah _) hb1;obtain⟨y0,y1,y2⟩:=HC.out w1 HB1);try(go_wp2_with fail)
    refine As hK fun hHeld=>?_;clear hK K;refine Bo 6 ?_;refine wpAnyH_done kR ?_ _;go_wp2;go_ret;exact⟨Af (NB.out sM).symm,bel hb (bel (A0 _ _) HB1)⟩
   ·go_wp2;refine rG (fun v=>v.cell? ⟨C,0,none⟩=some (.slice p0 M q0)/\v.cell? ⟨wr.heap.size,0,none⟩=some (.int .i64 K)/\v.cell? ⟨wr.heap.size,1,none⟩=some (.int .i64 P)) fun hHeld=>?_;refine Tc 0 1 2 ?_;refine Tb 3 4 ?_;clear hHeld;refine Aw 5 fun K hK=>?_;go_simp;(go_at_call 56;refine(HK.out _).mono ?_;rintro e w1 ⟨rfl,hb1⟩;have HB1:=bel (Ah _) hb1;obtain⟨y0,y1,y2⟩:=HC.out w1 HB1);try(go_wp2_with fail)
    refine As hK fun hHeld=>?_;clear hK K;refine Bo 6 ?_;refine wpAnyH_done kR ?_ _;go_wp2;go_roundw
    case rel=>exact⟨bel hb (bel (A0 _ _) HB1),j+1,oM,gN,NX.out sM⟩
    case measure=>simp[intOf];omega
  ·have:j=N:=oM;subst this;have HF:Hid ((l.all fun t=>AP t M)=true):=List.all_eq_true.2 fun t ht=>by
    obtain⟨i,hi,rfl⟩:=List.mem_iff_getElem.1 ht;exact hp.out i hi (by rw[←HN.out];exact hi)
   clear hp;go_wp2;go_ret;exact⟨Af HF.out.symm,hb⟩
theorem Eh(C:Nat)(v0 v1 v2 v3:Value)(c:Cd)(hk:Bl c)(w:World)(hc:AY w C v0 v1 v2 v3 c):
 Calls prog 40 #[.pointer (some ⟨C,0,none⟩)] w fun e w'=>e=.returned (.bool (C0 c))/\Below w.heap.size w w':=by
 obtain⟨hcc,hcv⟩:=hc;have c0:=hcc.at 0 rfl;have c1:=hcc.at 2 rfl;rw[Nat.zero_add]at c0 c1;have hC:=Ac c0;simp only at hC;have hr:=hcv.slots;obtain⟨p,q,rfl,hrr⟩:=hcv.slots;obtain⟨p0,q0,rfl,hrr0⟩:=hcv.sign;have HB:=hk.slotsL;have HB0:=hk.signL;have HSB:Hid (∀s∈c.slots,0<=s.bits/\s.bits<4294967296):=hk.sbits;unfold C0;obtain⟨M,hM⟩:∃M,c.sign.length=M:=⟨_,rfl⟩
 rw[hM]at c0 HB0 ⊢;obtain⟨l,hl⟩:∃l,c.slots=l:=⟨_,rfl⟩
 rw[hl]at c1 hr HB HSB ⊢;obtain⟨N,hN⟩:∃N,l.length=N:=⟨_,rfl⟩
 have HN:Hid (l.length=N):=hN;rw[hN]at c1 hr HB;have HR:Hid (AI 5 Eu w (.slice p N q) l):=hr;clear hl hM hN hr hrr hrr0 hcc hcv hk;go_enter func40,ntmps40;go_wp2
 go_loopw [10] (fun iv wr=>Below w.heap.size w wr/\∃j:Nat,j<=N/\iv=.int .i64 j/\Hid (∀i (h:i<l.length),i<j->BI l[i] M=true)) (fun iv _=>N-(intOf iv).toNat)
 case atStart=>exact⟨D0 w,0,Nat.zero_le _,rfl,fun i h hi=>absurd hi (Nat.not_lt_zero _)⟩
 case round=>
  obtain⟨hb,j,hj,rfl,hp⟩:=hrel;by_cases hlt:j<N
  ·have hll:j<l.length:=by rw[HN.out];exact hlt
   obtain⟨b,o,rfl,hx⟩:=HR.out.at hll;have hx':=hx.below hb;have x0:=hx'.at 0 rfl;have x1:=hx'.at 1 rfl;have x2:=hx'.at 2 rfl;have x3:=hx'.at 3 rfl;have x4:=hx'.at 4 rfl;rw[Nat.add_zero]at x0;have z0:=kc hb c0;have hC2:=Ac z0;have hb2:=Ac x0;simp only at hC2 hb2;have n1:C≠wr.heap.size:=oM;have n2:b≠wr.heap.size:=oM;have i1:(0:Int)<=(j:Int):=oM;have i2:(j:Int)<(N:Int):=oM;have KN:=CR l[j].ty p0 M q0 HB0;have KB:=FS l[j] (HSB.out _ (List.getElem_mem hll)).1 (HSB.out _ (List.getElem_mem hll)).2;have NX:Hid (BI l[j] M=true->∀i (h:i<l.length),i<j+1->BI l[i] M=true):=fun hq i h hi=>by
    exact Lc
   have NB:Hid (BI l[j] M=false->(l.all fun t=>BI t M)=false):=fun h=>List.all_eq_false.2 ⟨l[j],List.getElem_mem hll,by rw[h];decide⟩;obtain⟨T,hT⟩:∃T,l[j]=T:=⟨_,rfl⟩
   rw[hT]at x0 x1 x2 x3 x4 KN KB NX NB;have hsm:BI T M=(AP T.ty M&&DO T):=rfl;rw[hsm]at NX NB;obtain⟨X,hX⟩:∃X,AP T.ty M=X:=⟨_,rfl⟩
   obtain⟨Y,hY⟩:∃Y,DO T=Y:=⟨_,rfl⟩
   rw[hX,hY]at NX NB;simp only[hX]at KN;simp only[hY]at KB;obtain⟨⟨K,P⟩,Q,B,I⟩:=T;unfold CQ at KN;unfold Ju at KB;simp only at x0 x1 x2 x3 x4 KN KB;have HK:Hid (∀w,Calls prog 56 #[.agg #[.int .i64 K,.int .i64 P],.slice p0 M q0] w fun e w'=>e=.returned (.bool X)/\Below w.heap.size w w'):=KN;have HBW:Hid (∀w,Calls prog 57 #[.agg #[.int .i64 K,.int .i64 P,.bool Q,.int .u32 B,.int .i64 I]] w fun e w'=>e=.returned (.bool Y)/\Below w.heap.size w w'):=KB;have HC:Hid (∀v,Below (wr.alloc (.cells #[.int .i64 K,.int .i64 P,.bool Q,.int .u32 B,.int .i64 I] 55)).heap.size (wr.alloc (.cells #[.int .i64 K,.int .i64 P,.bool Q,.int .u32 B,.int .i64 I] 55)) v->v.cell? ⟨C,0,none⟩=some (.slice p0 M q0)/\v.cell? ⟨wr.heap.size,0,none⟩=some (.int .i64 K)/\v.cell? ⟨wr.heap.size,1,none⟩=some (.int .i64 P)/\v.cell? ⟨wr.heap.size,2,none⟩=some (.bool Q)/\v.cell? ⟨wr.heap.size,3,none⟩=some (.int .u32 B)/\v.cell? ⟨wr.heap.size,4,none⟩=some (.int .i64 I)):=
    fun v hv=>⟨kc hv (kc (A0 _ _) z0),kc hv sG,kc hv sG,kc hv sG,kc hv sG,kc hv sG⟩
   have f1:=(HC.out _ (D0 _)).1;clear KN KB hT hX hY hp hx hx' hsm;cases X
   ·go_wp2;refine rG (fun v=>v.cell? ⟨C,0,none⟩=some (.slice p0 M q0)/\v.cell? ⟨wr.heap.size,0,none⟩=some (.int .i64 K)/\v.cell? ⟨wr.heap.size,1,none⟩=some (.int .i64 P)/\v.cell? ⟨wr.heap.size,2,none⟩=some (.bool Q)/\v.cell? ⟨wr.heap.size,3,none⟩=some (.int .u32 B)/\v.cell? ⟨wr.heap.size,4,none⟩=some (.int .i64 I)) fun hHeld=>?_;refine Tf 0 1 2 3 4 5 ?_;clear hHeld;refine Aw 6 fun K hK=>?_;go_simp;(go_at_call 56;refine(HK.out _).mono ?_;rintro e w1 ⟨rfl,hb1⟩;have HB1:=bel (Ah _) hb1;obtain⟨y0,y1,y2,y3,y4,y5⟩:=HC.out w1 HB1);try(go_wp2_with fail)
    refine As hK fun hHeld=>?_;clear hK K;refine Tb 7 8 ?_;refine Ek 9 ?_;refine Ek 10 ?_;refine Ek 11 ?_;refine Bo 12 ?_;refine wpAnyH_done kR ?_ _;go_wp2;go_ret;exact⟨Af (NB.out sM).symm,bel hb (bel (A0 _ _) HB1)⟩
   ·cases Y
    ·go_wp2;refine rG (fun v=>v.cell? ⟨C,0,none⟩=some (.slice p0 M q0)/\v.cell? ⟨wr.heap.size,0,none⟩=some (.int .i64 K)/\v.cell? ⟨wr.heap.size,1,none⟩=some (.int .i64 P)/\v.cell? ⟨wr.heap.size,2,none⟩=some (.bool Q)/\v.cell? ⟨wr.heap.size,3,none⟩=some (.int .u32 B)/\v.cell? ⟨wr.heap.size,4,none⟩=some (.int .i64 I)) fun hHeld=>?_;refine Tf 0 1 2 3 4 5 ?_;clear hHeld;refine Aw 6 fun K hK=>?_;go_simp;(go_at_call 56;refine(HK.out _).mono ?_;rintro e w1 ⟨rfl,hb1⟩;have HB1:=bel (Ah _) hb1;obtain⟨y0,y1,y2,y3,y4,y5⟩:=HC.out w1 HB1);try(go_wp2_with fail)
     refine As hK fun hHeld=>?_;clear hK K;refine Tc 7 8 9 ?_;clear hHeld;refine Aw 10 fun K hK=>?_;go_simp;(go_at_call 57;refine(HBW.out _).mono ?_;rintro e w2 ⟨rfl,hb2⟩;have HB2:=bel HB1 hb2;obtain⟨y0,y1,y2,y3,y4,y5⟩:=HC.out w2 HB2);try(go_wp2_with fail)
     refine As hK fun hHeld=>?_;clear hK K;refine Tb 11 12 ?_;refine wpAnyH_done kR ?_ _;go_wp2;go_ret;exact⟨Af (NB.out sM).symm,bel hb (bel (A0 _ _) HB2)⟩
    ·go_wp2;refine rG (fun v=>v.cell? ⟨C,0,none⟩=some (.slice p0 M q0)/\v.cell? ⟨wr.heap.size,0,none⟩=some (.int .i64 K)/\v.cell? ⟨wr.heap.size,1,none⟩=some (.int .i64 P)/\v.cell? ⟨wr.heap.size,2,none⟩=some (.bool Q)/\v.cell? ⟨wr.heap.size,3,none⟩=some (.int .u32 B)/\v.cell? ⟨wr.heap.size,4,none⟩=some (.int .i64 I)) fun hHeld=>?_;refine Tf 0 1 2 3 4 5 ?_;clear hHeld;refine Aw 6 fun K hK=>?_;go_simp;(go_at_call 56;refine(HK.out _).mono ?_;rintro e w1 ⟨rfl,hb1⟩;have HB1:=bel (Ah _) hb1;obtain⟨y0,y1,y2,y3,y4,y5⟩:=HC.out w1 HB1);try(go_wp2_with fail)
     refine As hK fun hHeld=>?_;clear hK K;refine Tc 7 8 9 ?_;clear hHeld;refine Aw 10 fun K hK=>?_;go_simp;(go_at_call 57;refine(HBW.out _).mono ?_;rintro e w2 ⟨rfl,hb2⟩;have HB2:=bel HB1 hb2;obtain⟨y0,y1,y2,y3,y4,y5⟩:=HC.out w2 HB2);try(go_wp2_with fail)
     refine As hK fun hHeld=>?_;clear hK K;refine Tb 11 12 ?_;refine wpAnyH_done kR ?_ _;go_wp2;go_roundw
     case rel=>exact⟨bel hb (bel (A0 _ _) HB2),j+1,oM,gN,NX.out sM⟩
     case measure=>simp[intOf];omega
  ·have:j=N:=oM;subst this;have HF:Hid ((l.all fun t=>BI t M)=true):=List.all_eq_true.2 fun t ht=>by
    obtain⟨i,hi,rfl⟩:=List.mem_iff_getElem.1 ht;exact hp.out i hi (by rw[←HN.out];exact hi)
   clear hp;go_wp2;go_ret;exact⟨Af HF.out.symm,hb⟩

theorem DT(C:Nat)(v0 v1 v2 v3:Value)(c:Cd)(hk:Bl c)(w:World)(hc:AY w C v0 v1 v2 v3 c):
 Calls prog 24 #[.pointer (some ⟨C,0,none⟩)] w fun e w'=>e=.returned (.int .i64 (BL c))/\Below w.heap.size w w':=by
 have K1:=Gq v0 c.sign hk.signL hk.names w hc.2.sign.rd;have K2:=fun w h=>En C v0 v1 v2 v3 c hk w h;have K3:=fun w h=>Eh C v0 v1 v2 v3 c hk w h;unfold BL;obtain⟨E,hE⟩:∃E,BV c.sign=E:=⟨_,rfl⟩
 obtain⟨X,hX⟩:∃X,B0 c=X:=⟨_,rfl⟩
 obtain⟨Y,hY⟩:∃Y,C0 c=Y:=⟨_,rfl⟩
 simp only[hE]at K1 ⊢;simp only[hX]at K2 ⊢;simp only[hY]at K3 ⊢;have HC0:Hid (AY w C v0 v1 v2 v3 c):=hc;obtain⟨hcc,hcv⟩:=hc;have b1:=hk.regsL;have b2:=hk.slotsL;have b3:=hk.listL;obtain⟨p1,q1,rfl,r1⟩:=hcv.regs;obtain⟨p2,q2,rfl,r2⟩:=hcv.slots;obtain⟨p3,q3,rfl,r3⟩:=hcv.list;have c0:=hcc.at 0 rfl;have c1:=hcc.at 1 rfl;have c2:=hcc.at 2 rfl;have c3:=hcc.at 3 rfl;rw[Nat.zero_add]at c0 c1 c2 c3;obtain⟨N1,h1⟩:∃N,c.regs.length=N:=⟨_,rfl⟩
 obtain⟨N2,h2⟩:∃N,c.slots.length=N:=⟨_,rfl⟩
 obtain⟨N3,h3⟩:∃N,c.list.length=N:=⟨_,rfl⟩
 rw[h1]at K2 K3 c1 b1 HC0 ⊢;rw[h2]at K2 K3 c2 b2 HC0 ⊢;rw[h3]at K2 K3 c3 b3 HC0 ⊢;have HK1:Hid (Calls prog 38 #[v0] w fun e w'=>e=.returned (.int .i64 E)/\Below w.heap.size w w'):=K1;have HK2:Hid (∀w,AY w C v0 (.slice p1 N1 q1) (.slice p2 N2 q2) (.slice p3 N3 q3) c->Calls prog 39 #[.pointer (some ⟨C,0,none⟩)] w fun e w'=>e=.returned (.bool X)/\Below w.heap.size w w'):=K2;have HK3:Hid (∀w,AY w C v0 (.slice p1 N1 q1) (.slice p2 N2 q2) (.slice p3 N3 q3) c->Calls prog 40 #[.pointer (some ⟨C,0,none⟩)] w fun e w'=>e=.returned (.bool Y)/\Below w.heap.size w w'):=K3;have HC:Hid (∀v,Below w.heap.size w v->v.cell? ⟨C,1,none⟩=some (.slice p1 N1 q1)/\v.cell? ⟨C,2,none⟩=some (.slice p2 N2 q2)/\v.cell? ⟨C,3,none⟩=some (.slice p3 N3 q3)):=fun v hv=>⟨kc hv c1,kc hv c2,kc hv c3⟩
 clear K1 K2 K3 hE hX hY h1 h2 h3 r1 r2 r3 hcc hcv hk;by_cases hE:E=0
 ·subst hE;rw[if_neg sM];by_cases s1:16384<N1\/32768<N3
  ·rw[if_pos s1];by_cases s2:16384<N1
   ·have s2':(16384:Int)<(N1:Int):=oM;clear s1 s2;exact LU
   ·have s2':¬ (16384:Int)<(N1:Int):=oM;have s3':(32768:Int)<(N3:Int):=oM;clear s1 s2;exact LU
  ·rw[if_neg s1];have s2':¬ (16384:Int)<(N1:Int):=oM;have s3':¬ (32768:Int)<(N3:Int):=oM;clear s1;by_cases s4:4096<N2
   ·rw[if_pos s4];have s4':(4096:Int)<(N2:Int):=oM;clear s4;exact LU
   ·rw[if_neg s4];have s4':¬ (4096:Int)<(N2:Int):=oM;clear s4;cases X
    ·go_enter func24,ntmps24;go_wp2_with(first
      |(go_at_call 38;refine HK1.out.mono ?_;rintro e w1 ⟨rfl,hb1⟩;obtain⟨d1,d2,d3⟩:=HC.out w1 hb1)
      |(go_at_call 39;refine(HK2.out _ (HC0.out.below hb1)).mono ?_;rintro e w2 ⟨rfl,hb2⟩;have HB2:=bel hb1 hb2)
      |(go_at_call 40;refine(HK3.out _ (HC0.out.below HB2)).mono ?_;rintro e w3 ⟨rfl,hb3⟩;have HB3:=bel HB2 hb3))
     all_goals(go_ret;exact⟨rfl,HB2⟩)
    ·cases Y
     ·exact MD
     ·exact MD
 ·rw[if_pos hE];have hE':(E==0)=false:=by simpa using hE
  go_enter func24,ntmps24;go_wp2_with(go_at_call 38;refine HK1.out.mono ?_;rintro e w1 ⟨rfl,hb1⟩)
  all_goals(go_ret;exact⟨rfl,hb1⟩)

theorem Ez:(prog.info? 4).map (fun i=>(i.zero,i.size,i.bytes))=some (some (.bool false),1,1):=kR
theorem Gf(m:Nat)(h:m<=70368744177664)(w:World):(Instr.makeSlice 47 (.int .i64 m) (.int .i64 m)).run prog w=.ok (.slice (some ⟨w.heap.size,0,none⟩) m m) (w.alloc (.cells (madeCells #[.bool false] m) 4)):=
 run_make_row' (P:=prog) 47 4 (.bool false) 1 underlying47 Ez rfl .i64 .i64 m oM oM w
theorem WS.start(w:World)(C n:Nat):WS w.heap.size (w.heap.size+1) C n w.heap.size (.slice none 0 0) (.slice none 0 0) ((w.alloc (.cells (madeCells #[.bool false] n) 4)).alloc (.cells #[.pointer (some ⟨C,0,none⟩),.slice (some ⟨w.heap.size,0,none⟩) n n,.slice none 0 0,.slice none 0 0] 69)) ⟨[],[]⟩:=by
 have h1:=(World.rowIs_made w (.bool false) n 4).alloc (.cells #[.pointer (some ⟨C,0,none⟩),.slice (some ⟨w.heap.size,0,none⟩) n n,.slice none 0 0,.slice none 0 0] 69);have h2:=World.rowIs_alloc (w.alloc (.cells (madeCells #[.bool false] n) 4)) #[.pointer (some ⟨C,0,none⟩),.slice (some ⟨w.heap.size,0,none⟩) n n,.slice none 0 0,.slice none 0 0] 69 (Lr C w.heap.size n (.slice none 0 0) (.slice none 0 0)) (fun i hi=>by
  have hi':i<4:=hi;obtain rfl|rfl|rfl|rfl:i=0\/i=1\/i=2\/i=3:=oM
  all_goals rfl)
 have hs:(w.alloc (.cells (madeCells #[.bool false] n) 4)).heap.size=w.heap.size+1:=sM;rw[hs]at h2;exact⟨h2,h1.congr fun j _=>by simp,World.ownsRow_nil _ _ _ 1,World.ownsRow_nil _ _ _ 3,oM,Nat.le_refl _,oM,by simp[Value.ownBlock],by simp[Value.ownBlock],by simp[Value.ownBlock],by simp[Value.ownBlock],by simp[Value.ownBlock]⟩
theorem Ex(v0 v1 v2 v3:Value)(c:Cd)(hk:Bl c)(w:World)(hv:CY w v0 v1 v2 v3 c):
 Calls prog 10 #[.agg #[v0,v1,v2,v3]] w fun e w'=>e=.returned (.tuple #[.int .i64 (Aj c).1,.int .i64 (Aj c).2])/\Below w.heap.size w w':=by
 have hat:AY (w.alloc (.cells #[v0,v1,v2,v3] 27)) w.heap.size v0 v1 v2 v3 c:=by
  refine⟨fun j hj=>?_,hv.below (A0 _ _)⟩;have hj':j<4:=hj;obtain rfl|rfl|rfl|rfl:j=0\/j=1\/j=2\/j=3:=oM
  all_goals simp[go_sem]
 have K1:=DT w.heap.size v0 v1 v2 v3 c hk _ hat;unfold Aj;obtain⟨A,hA⟩:∃A,BL c=A:=⟨_,rfl⟩
 rw[hA]at K1 ⊢;have HK1:Hid (Calls prog 24 #[.pointer (some ⟨w.heap.size,0,none⟩)] (w.alloc (.cells #[v0,v1,v2,v3] 27)) fun e w'=>e=.returned (.int .i64 A)/\Below (w.alloc (.cells #[v0,v1,v2,v3] 27)).heap.size (w.alloc (.cells #[v0,v1,v2,v3] 27)) w'):=K1;clear K1;by_cases h0:A=0
 ·rw[if_neg (by simp[h0])];have hsz:c.regs.length<=16384/\c.list.length<=32768/\B0 c=true:=by
   rw[h0]at hA;unfold BL at hA;split at hA
   ·rename_i e1;exact absurd hA e1
   ·split at hA
    ·exact absurd hA dE
    ·split at hA
     ·exact absurd hA dE
     ·split at hA
      ·rename_i e1 e2 e3 e4;simp only[Bool.and_eq_true]at e4;exact⟨oM,oM,e4.1⟩
      ·exact absurd hA dE
  obtain⟨hn,hN,htm⟩:=hsz;clear hA;subst h0;have KT:=fun E G gi vs vo s b o i w h ok hc hi hb hb0 hb1=>FL E G w.heap.size c.regs.length gi vs vo s v0 v1 v2 v3 c hk b o i w h rfl ok hn hc hi hb htm hb0 hb1;clear KT;have hr:=hv.list;obtain⟨p3,q3,rfl,hr3⟩:=hv.list;obtain⟨p1,q1,rfl,hr1⟩:=hv.regs;have HAT:Hid (AY (w.alloc (.cells #[v0,.slice p1 c.regs.length q1,v2,.slice p3 c.list.length q3] 27)) w.heap.size v0 (.slice p1 c.regs.length q1) v2 (.slice p3 c.list.length q3) c):=hat;obtain⟨Pr,hPr⟩:∃P,HY c ⟨[],[]⟩ 0 c.list=P:=⟨_,rfl⟩
  rw[hPr];have HP:Hid (HY c ⟨[],[]⟩ 0 c.list=Pr):=hPr;have HROW:Hid (AI 7 AS w (.slice p3 c.list.length q3) c.list):=hr;have HIB:Hid (∀i∈c.list,0<=i.bits/\i.bits<4294967296):=hk.ibits;obtain⟨n,hnn⟩:∃n,c.regs.length=n:=⟨_,rfl⟩
  obtain⟨N,hNN⟩:∃N,c.list.length=N:=⟨_,rfl⟩
  have HNE:Hid (c.regs.length=n):=hnn;have HNL:Hid (c.list.length=N):=hNN;rw[hnn]at hn HK1 HAT;rw[hNN]at hN HK1 HAT HROW;rw[hnn,hNN];have mk:=fun w=>Gf n oM w;have HOKC:Hid (Bl c):=hk;have HTM:Hid (B0 c=true):=htm;have f1:=HAT.out.1.at 1 rfl;have f3:=HAT.out.1.at 3 rfl;rw[Nat.zero_add]at f1 f3;have HC:Hid (∀v,Below (w.alloc (.cells #[v0,.slice p1 n q1,v2,.slice p3 N q3] 27)).heap.size (w.alloc (.cells #[v0,.slice p1 n q1,v2,.slice p3 N q3] 27)) v->v.cell? ⟨w.heap.size,1,none⟩=some (.slice p1 n q1)/\v.cell? ⟨w.heap.size,3,none⟩=some (.slice p3 N q3)):=fun v hv=>⟨kc hv f1,kc hv f3⟩
  clear hat hv hr hr3 hr1 hPr hnn hNN hk htm f1 f3;go_enter func10,ntmps10;go_wp2_with(go_at_call 24;refine HK1.out.mono ?_;rintro e w1 ⟨rfl,hb1⟩;obtain⟨g1,g3⟩:=HC.out w1 hb1;have g4:((w1.alloc (.cells (madeCells #[.bool false] n) 4)).alloc (.cells #[.pointer (some ⟨w.heap.size,0,none⟩),.slice (some ⟨w1.heap.size,0,none⟩) n n,.slice none 0 0,.slice none 0 0] 69)).cell? ⟨w.heap.size,3,none⟩=some (.slice p3 N q3):=kc (A0 _ _) (kc (A0 _ _) g3));have HB1:Hid (Below w.heap.size w w1):=bel (A0 _ _) hb1;have HAT1:Hid (AY w1 w.heap.size v0 (.slice p1 n q1) v2 (.slice p3 N q3) c):=HAT.out.below hb1;have hs1:w.heap.size<w1.heap.size:=by have:=hb1.size;simp at this;omega
  have HS0:=WS.start w1 w.heap.size n;have HB0:Below w1.heap.size w1 ((w1.alloc (.cells (madeCells #[.bool false] n) 4)).alloc (.cells #[.pointer (some ⟨w.heap.size,0,none⟩),.slice (some ⟨w1.heap.size,0,none⟩) n n,.slice none 0 0,.slice none 0 0] 69)):=bel (A0 _ _) (A0 _ _);obtain⟨W2,hW2⟩:∃W2,(w1.alloc (.cells (madeCells #[.bool false] n) 4)).alloc (.cells #[.pointer (some ⟨w.heap.size,0,none⟩),.slice (some ⟨w1.heap.size,0,none⟩) n n,.slice none 0 0,.slice none 0 0] 69)=W2:=⟨_,rfl⟩
  rw[hW2]at HS0 HB0;try rw[hW2]
  clear HK1 HC hb1 mk HAT g4 hW2
  go_loopw [19] (fun iv wr=>∃ (j:Nat) (s:Wk) (vs vo:Value),j<=N/\iv=.int .i64 j/\Below w1.heap.size w1 wr/\WS w1.heap.size (w1.heap.size+1) w.heap.size n w1.heap.size vs vo wr s/\CZ n s/\Hid (HY c s j (c.list.drop j)=Pr)) (fun iv _=>N-(intOf iv).toNat)
  case atStart=>exact⟨0,⟨[],[]⟩,_,_,Nat.zero_le _,rfl,HB0,HS0,CZ.start n,by show _=_;rw[List.drop_zero];exact HP.out⟩
  case round=>
   obtain⟨j,s,vs,vo,hj,rfl,hb,hws,hok,hgo⟩:=hrel;have HWS:Hid (WS w1.heap.size (w1.heap.size+1) w.heap.size n w1.heap.size vs vo wr s):=hws;have HOK:Hid (CZ n s):=hok;have HBW:Hid (Below w1.heap.size w1 wr):=hb;have d3:=kc hb g3;have l3:=hws.c3;have hol:∃p q,vo=.slice p s.opens.length q:=AU hws.opn;have hnest:=hok.nest;clear HS0 HB0;by_cases hlt:j<N
   ·have hll:j<c.list.length:=by rw[HNL.out];exact hlt
    have hgo':=hgo.out;rw[List.drop_eq_getElem_cons hll]at hgo';have hgi:HY c s j (c.list[j]::c.list.drop (j+1))=if AM c s c.list[j]then HY c (AK s c.list[j]) (j+1) (c.list.drop (j+1))else(160,(j:Int)):=rfl;rw[hgi]at hgo';obtain⟨b,o,rfl,hx⟩:=HROW.out.at hll;have hbw:b<w.heap.size:=Ac (hx 0 (by simp[AS]));have hxw:=(hx.below HB1.out).below hb;have KT:=FL w1.heap.size (w1.heap.size+1) w.heap.size n w1.heap.size vs vo s v0 (.slice p1 n q1) v2 (.slice (some ⟨b,o,none⟩) N q3) c HOKC.out b (o+j*7) c.list[j] wr hws HNE.out hok hn (HAT1.out.below hb) hxw oM HTM.out (HIB.out _ (List.getElem_mem hll)).1 (HIB.out _ (List.getElem_mem hll)).2;have hokS:AM c s c.list[j]=true->CZ n (AK s c.list[j]):=fun ht=>by
     have hq:CZ c.regs.length s:=by rw[HNE.out];exact hok
     have:=CZ.step hq ht;rw[HNE.out]at this;exact this
    obtain⟨X,hX⟩:∃X,AM c s c.list[j]=X:=⟨_,rfl⟩
    rw[hX]at hgo' hokS;simp only[hX]at KT;have HKT:Hid (Calls prog 25 #[.pointer (some ⟨w1.heap.size+1,0,none⟩),.pointer (some ⟨b,o+j*7,none⟩)] wr fun e w'=>e=.returned (.bool X)/\Below w1.heap.size wr w'/\(X=true->∃vs' vo',WS w1.heap.size (w1.heap.size+1) w.heap.size n w1.heap.size vs' vo' w' (AK s c.list[j]))):=KT;have HGO:Hid ((if X=true then HY c (AK s c.list[j]) (j+1) (c.list.drop (j+1))else(160,(j:Int)))=Pr):=hgo';have HOS:Hid (X=true->CZ n (AK s c.list[j])):=hokS;have i1:(0:Int)<=(j:Int):=oM;have i2:(j:Int)<(N:Int):=oM;clear KT hgo hgo' hgi hokS hX hx hxw hws hok hb hol l3;cases X
    ·go_wp2_with(go_at_call 25;refine HKT.out.mono ?_;rintro e w5 ⟨rfl,hb5,hw5⟩;have HB5:Hid (Below w1.heap.size wr w5):=hb5;clear hb5 hw5)
     go_ret2
     refine⟨?_,bel HB1.out (HBW.out.trans HB5.out)⟩;have:=HGO.out;rw[if_neg dE]at this;rw[←this];rfl
    ·go_wp2_with(go_at_call 25;refine HKT.out.mono ?_;rintro e w5 ⟨rfl,hb5,hw5⟩;have HB5:Hid (Below w1.heap.size wr w5):=hb5;have HW5:Hid (∃vs' vo',WS w1.heap.size (w1.heap.size+1) w.heap.size n w1.heap.size vs' vo' w5 (AK s c.list[j])):=hw5 fT;clear hb5 hw5);go_roundw
     case rel=>
      obtain⟨vs',vo',hw5⟩:=HW5.out;exact⟨j+1,_,vs',vo',oM,gN,HBW.out.trans HB5.out,hw5,HOS.out fT,by show _=_;have:=HGO.out;rw[if_pos fT]at this;exact this⟩
     case measure=>simp[intOf];omega
   ·have:j=N:=oM;subst this;have hgo':=hgo.out;rw[List.drop_of_length_le (by rw[HNL.out];exact Nat.le_refl _)]at hgo';have hgi:HY c s j []=if s.opens.isEmpty then(0,0)else(160,(j:Int)):=rfl;rw[hgi]at hgo';obtain⟨p,q,rfl⟩:=hol;obtain⟨M,hM⟩:∃M,s.opens.length=M:=⟨_,rfl⟩
    rw[hM]at l3 hnest;have hE:s.opens.isEmpty=decide (M=0):=by
     rw[←hM];cases s.opens with
     |nil=>rfl
     |cons a l=>simp
    rw[hE]at hgo';have HGO:Hid ((if decide (M=0)=true then((0:Int),(0:Int))else(160,(j:Int)))=Pr):=hgo';clear hgo hgo' hgi hE hM hws hok hb;by_cases hz:M=0
    ·subst hz;go_wp2
     go_ret2
     refine⟨?_,bel HB1.out HBW.out⟩;rw[←HGO.out];rfl
    ·have hz':(0:Int)<(M:Int):=oM;have hz2:0<M:=oM;have HZ:Hid (¬M=0):=hz;clear hz;go_wp2;refine rG (fun v=>v.cell? ⟨w.heap.size,3,none⟩=some (.slice p3 j q3)) fun hHeld=>?_;refine Tc 0 1 2 ?_;refine Tb 3 4 ?_;refine wpAnyH_done kR ?_ _;go_wp2
     go_ret2
     refine⟨?_,(bel HB1.out HBW.out).drew⟩;have:=HGO.out;rw[if_neg (by simpa using HZ.out)]at this;rw[←this];rfl
 ·rw[if_pos h0];have h0':(A==0)=false:=by simpa using h0
  go_enter func10,ntmps10;go_wp2_with(go_at_call 24;refine HK1.out.mono ?_;rintro e w1 ⟨rfl,hb1⟩)
  all_goals(go_ret2;exact⟨rfl,bel (A0 _ _) hb1⟩)

def D2(i:Ab):Value:=.agg #[.int .i64 i.op,.int .i64 i.d,.int .i64 i.a,.int .i64 i.b,.int .i64 i.c,.int .i64 i.n,.int .u32 i.bits]
theorem Hc{w v:World}{i:Ab}{t:TypeId}(k:Below (w.alloc (.cells #[.int .i64 i.op,.int .i64 i.d,.int .i64 i.a,.int .i64 i.b,.int .i64 i.c,.int .i64 i.n,.int .u32 i.bits] t)).heap.size (w.alloc (.cells #[.int .i64 i.op,.int .i64 i.d,.int .i64 i.a,.int .i64 i.b,.int .i64 i.c,.int .i64 i.n,.int .u32 i.bits] t)) v):Ae v w.heap.size 0 (AS i):=by
 refine Ae.below (fun j hj=>?_) k;have hj':j<7:=hj;obtain rfl|rfl|rfl|rfl|rfl|rfl|rfl:j=0\/j=1\/j=2\/j=3\/j=4\/j=5\/j=6:=oM
 all_goals simp[go_sem,AS]
theorem FG(i:Ab)(w:World):Calls prog 29 #[D2 i] w fun e w'=>e=.returned (.bool ((A4 i.op).d != 0))/\Below w.heap.size w w':=by
 have K1:=fun w=>Dt i.op w;obtain⟨r,hr⟩:∃r,A4 i.op=r:=⟨_,rfl⟩
 obtain⟨X,hX⟩:∃X,Au i.op=X:=⟨_,rfl⟩
 simp only[hr,hX]at K1 ⊢;obtain⟨L0,L1,L2,L3,L4⟩:=r;obtain⟨op,D,A,B,E,n,bt⟩:=i;unfold D2;unfold BD at K1;simp only at K1 ⊢;have HK:Hid (∀w,Calls prog 41 #[.int .i64 op] w fun e w'=>e=.returned (.tuple #[.agg #[.int .i64 L0,.int .i64 L1,.int .i64 L2,.int .i64 L3,.int .i64 L4],.bool X])/\Below w.heap.size w w'):=K1;clear K1 hr hX;go_enter func29,ntmps29;go_wp2_with(go_at_call 41;refine(HK.out _).mono ?_;rintro e w1 ⟨rfl,hb1⟩);go_ret;exact⟨rfl,bel (bel (A0 _ _) hb1) (A0 _ _)⟩
theorem EE(i:Ab)(w:World):Calls prog 30 #[D2 i] w fun e w'=>∃v,e=.returned v/\w'.ownsRow w.heap.size 3 1 v (A8 i (A4 i.op)).length (Cm (A8 i (A4 i.op)))/\Below w.heap.size w w':=by
 have K1:=fun w=>Dt i.op w;have K2:=fun w h=>CV w.heap.size 0 i (A4 i.op) w h;clear K2;have K3:=fun b v h=>CV b 0 i (A4 i.op) v h;have HIC:=fun(v:World) k=>Hc (w:=w) (v:=v) (i:=i) (t:=40) k;obtain⟨r,hr⟩:∃r,A4 i.op=r:=⟨_,rfl⟩
 obtain⟨X,hX⟩:∃X,Au i.op=X:=⟨_,rfl⟩
 simp only[hr,hX]at K1 K3 ⊢;obtain⟨RL,hRL⟩:∃x,A8 i r=x:=⟨_,rfl⟩
 simp only[hRL]at K3 ⊢;obtain⟨L0,L1,L2,L3,L4⟩:=r;obtain⟨op,D,A,B,E,n,bt⟩:=i;unfold D2;unfold BD at K1 K3;simp only at K1 K3 HIC ⊢;have HK:Hid (∀w,Calls prog 41 #[.int .i64 op] w fun e w'=>e=.returned (.tuple #[.agg #[.int .i64 L0,.int .i64 L1,.int .i64 L2,.int .i64 L3,.int .i64 L4],.bool X])/\Below w.heap.size w w'):=K1;have HK3:Hid (∀b v,Ae v b 0 (AS ⟨op,D,A,B,E,n,bt⟩)->Calls prog 44 #[.agg #[.int .i64 L0,.int .i64 L1,.int .i64 L2,.int .i64 L3,.int .i64 L4],.pointer (some ⟨b,0,none⟩)] v fun e w'=>∃u,e=.returned u/\w'.ownsRow v.heap.size 3 1 u RL.length (Cm RL)/\Below v.heap.size v w'):=K3;have HCC:Hid (∀v,Below (w.alloc (.cells #[.int .i64 op,.int .i64 D,.int .i64 A,.int .i64 B,.int .i64 E,.int .i64 n,.int .u32 bt] 40)).heap.size (w.alloc (.cells #[.int .i64 op,.int .i64 D,.int .i64 A,.int .i64 B,.int .i64 E,.int .i64 n,.int .u32 bt] 40)) v->Ae v w.heap.size 0 (AS ⟨op,D,A,B,E,n,bt⟩)):=HIC;clear K1 K3 HIC hr hX hRL;go_enter func30,ntmps30;go_wp2_with(first
  |(go_at_call 41;refine(HK.out _).mono ?_;rintro e w1 ⟨rfl,hb1⟩)
  |(go_at_call 44;refine(HK3.out _ _ (HCC.out _ (bel hb1 (A0 _ _)))).mono ?_;rintro e w2 ⟨u,rfl,hu,hb2⟩;have HU:Hid (w2.ownsRow (w1.alloc (.cells #[.int .i64 L0,.int .i64 L1,.int .i64 L2,.int .i64 L3,.int .i64 L4] 97)).heap.size 3 1 u RL.length (Cm RL)):=hu;have HB2:Hid (Below w.heap.size w w2):=bel (bel (bel (A0 _ _) hb1) (A0 _ _)) hb2;have hs:w.heap.size<=(w1.alloc (.cells #[.int .i64 L0,.int .i64 L1,.int .i64 L2,.int .i64 L3,.int .i64 L4] 97)).heap.size:=(bel (bel (A0 _ _) hb1) (A0 _ _)).size;have HSZ:Hid (w.heap.size<=(w1.alloc (.cells #[.int .i64 L0,.int .i64 L1,.int .i64 L2,.int .i64 L3,.int .i64 L4] 97)).heap.size):=hs;clear hu hb2 hs))
 go_ret;exact⟨_,rfl,Bz HU.out HSZ.out,HB2.out⟩
def Al{α:Type}(f:α->List Value)(l:List α):List Value:=l.flatMap f
theorem Cs{α:Type}{f:α->List Value}{k:Nat}(hf:∀x,(f x).length=k):∀l:List α,(Al f l).length=l.length*k
 |[]=>by simp[Al]
 |a::l=>by
  have e:Al f (a::l)=f a++Al f l:=by simp[Al]
  rw[e,List.length_append,Cs hf l,hf,List.length_cons,Nat.add_mul,Nat.one_mul,Nat.add_comm]
theorem CI{α:Type}{f:α->List Value}{k:Nat}(hf:∀x,(f x).length=k):∀ (l:List α) (i j:Nat) (hi:i<l.length),j<k->(Al f l)[i*k+j]? =(f l[i])[j]?
 |[],i,j,hi,hj=>absurd hi (Nat.not_lt_zero _)
 |a::l,0,j,hi,hj=>by
  have e:Al f (a::l)=f a++Al f l:=by simp[Al]
  rw[e,Nat.zero_mul,Nat.zero_add,List.getElem?_append_left (by rw[hf];exact hj)];rfl
 |a::l,i+1,j,hi,hj=>by
  have e:Al f (a::l)=f a++Al f l:=by simp[Al]
  have e2:(i+1)*k+j-(f a).length=i*k+j:=by rw[hf,Nat.add_mul,Nat.one_mul];omega
  rw[e,List.getElem?_append_right (by rw[hf,Nat.add_mul,Nat.one_mul];omega),e2];exact CI hf l i j (by simpa using hi) hj
theorem C9{α:Type}{f:α->List Value}{k:Nat}(hf:∀x,(f x).length=k){w:World}{B:Nat}{t:TypeId}{v:Value}{l:List α}(h:w.ownsRow B t k v l.length (Al f l)):AI k f w v l:=by
 by_cases h0:l=[]
 ·subst h0;obtain⟨p,c,hv⟩:=AU h;exact⟨p,c,hv,.inl rfl⟩
 ·obtain⟨g,cap,hv,_,_,_,_,hcl⟩:=Bj h (List.length_pos_iff.2 h0);refine⟨_,cap,hv,.inr ⟨g,0,rfl,fun i hi j hj=>?_⟩⟩;rw[Nat.zero_add];exact hcl _ _ (by rw[CI hf l i j hi (by rw[←hf l[i]];exact hj)];exact List.getElem?_eq_getElem hj)
theorem F4(b o j:Nat):(⟨b,o,none⟩:Addr).add j=⟨b,o+j,none⟩:=by unfold Addr.add;split<;>simp_all
theorem Hs{α:Type}{f:α->List Value}{k:Nat}(hk:0<k)(hf:∀x,(f x).length=k){w:World}{b o:Nat}{l:List α}(h:∀i (hi:i<l.length),Ae w b (o+i*k) (f l[i]))(j:Nat)(u:Value)(hu:(Al f l)[j]? =some u):w.cell? ((⟨b,o,none⟩:Addr).add j)=some u:=by
 have hj:j<l.length*k:=by have:=(List.getElem?_eq_some_iff.1 hu).1;rwa[Cs hf]at this
 have hi:j/k<l.length:=Nat.div_lt_of_lt_mul (by rw[Nat.mul_comm];exact hj);have hm:j%k<k:=Nat.mod_lt _ hk;have e:j=j/k*k+j%k:=by rw[Nat.mul_comm];exact(Nat.div_add_mod j k).symm
 rw[e,CI hf l _ _ hi hm]at hu;rw[F4];have:=(h _ hi).at _ hu;rw[Nat.add_assoc,←e]at this;exact this
theorem B2{P:Program}{w w':World}{ops:Array Oper}{rest:List Oper}{o:Oper}{a:Act}{Q:Exit->Act->World->Prop}(hgd:o.guard=none)(s x:Operand)(t:TypeId)
 (ho:o.op=.call {callee:=.builtin .append,args:=#[s,x],argTypes:=#[t,t]}) (v v2 v':Value) (hs:a.eval s=v) (hx:a.eval x=v2) (hr:(Builtin.append_ #[t,t] o.type #[v,v2]).run P w=.ok v' w')
 (h:wpList P ops Q rest (a.put o.dst v') w'):wpList P ops Q (o::rest) a w:=
 wpList_plain hgd fun _ hK=>by
  unfold Oper.wp execOp;simp only[ho,resolve,invoke,builtin,Sem.run_bind,Sem.run_pure,Result.andThen_ok,List.map_toArray,List.map_cons,List.map_nil,hs,hx,hr];exact hK _ _ h
theorem H8:(prog.info? 40).map (fun i=>(i.zero,i.size,i.bytes))=some (some (.agg #[.int .i64 0,.int .i64 0,.int .i64 0,.int .i64 0,.int .i64 0,.int .i64 0,.int .u32 0]),7,56):=kR

theorem A2{p:Prop}(h:p):Hid p:=h



section
variable {c : Cd} {G P : List (List Int)} {f : Fr} {i : Ab}
end




section
variable {c : Cd} {G P : List (List Int)} {f f' : Fr} {i i' : Ab}
end
instance:DecidableEq Ba:=fun a b=>by
 cases a;cases b
 simp only[Ba.mk.injEq];exact inferInstanceAs (Decidable (_/\_/\_))
theorem BE{P:Program}{w:World}{ops:Array Oper}{o:Oper}{a:Act}{K:Act->World->Prop}{Q:Exit->Act->World->Prop}{E:Prop}(hgd:o.guard=none)(t:TypeId)(x y:Operand)(yt:TypeId)
 (ho:o.op=.binOp .neq t x y yt) (v1 v2 v:Value) (hx:a.eval x=v1) (hy:a.eval y=v2) (hg:(eqGuard .neq t x y v1 v2).run P w=.ok () w) (hr:(binOp .neq t v1 v2).run P w=.ok v w) (h:K (a.put o.dst v) w):
 if Region.wanted o (yielded ops a.tmps)=true then Oper.wp P o a w K Q else E:=by
 have hw:Region.wanted o (yielded ops a.tmps)=true:=by simp[Region.wanted,hgd]
 rw[if_pos hw];unfold Oper.wp execOp;simp only[ho,Sem.run_bind,Sem.run_pure,Result.andThen_ok,hx,hy,hg,hr];exact h
theorem JR(a b:Ba)(w:World):(binOp .neq 42 (pv a) (pv b)).run prog w=.ok (.bool (!decide (a=b))) w:=by
 obtain⟨x0,x1,x2⟩:=a;obtain⟨y0,y1,y2⟩:=b;unfold pv;by_cases h0:x0=y0
 ·subst h0;by_cases h1:x1=y1
  ·subst h1;by_cases h2:x2=y2
   ·subst h2;go_simp
   ·go_simp
  ·go_simp
 ·go_simp;exact fun e=>absurd (Go.WideShapes.bytes_inj (by rwa[ByteArray.toList_eq,ByteArray.toList_eq]at e)) h0
theorem GF(p q:Operand)(a b:Ba)(w:World):(eqGuard .neq 42 p q (pv a) (pv b)).run prog w=.ok () w:=by
 obtain⟨x0,x1,x2⟩:=a;obtain⟨y0,y1,y2⟩:=b;unfold pv;simp[eqGuard,go_sem]
theorem KO(a b:Ty)(w:World):(binOp .neq 50 (CQ a) (CQ b)).run prog w=.ok (.bool (!decide (a=b))) w:=by
 obtain⟨x0,x1⟩:=a;obtain⟨y0,y1⟩:=b;unfold CQ;by_cases h0:x0=y0
 ·subst h0;by_cases h1:x1=y1
  ·subst h1;go_simp
  ·go_simp
 ·go_simp
theorem I9(p q:Operand)(a b:Ty)(w:World):(eqGuard .neq 50 p q (CQ a) (CQ b)).run prog w=.ok () w:=by
 obtain⟨x0,x1⟩:=a;obtain⟨y0,y1⟩:=b;unfold CQ;simp[eqGuard,go_sem]
theorem KK(a b:Sl)(w:World):(binOp .neq 55 (Ju a) (Ju b)).run prog w=.ok (.bool (!decide (a=b))) w:=by
 obtain⟨⟨x0,x1⟩,x2,x3,x4⟩:=a;obtain⟨⟨y0,y1⟩,y2,y3,y4⟩:=b;unfold Ju;by_cases h0:x0=y0
 ·subst h0;by_cases h1:x1=y1
  ·subst h1;by_cases h2:x2=y2
   ·subst h2;by_cases h3:x3=y3
    ·subst h3;by_cases h4:x4=y4
     ·subst h4;go_simp
     ·go_simp
    ·go_simp
   ·go_simp
  ·go_simp
 ·go_simp
theorem I8(p q:Operand)(a b:Sl)(w:World):(eqGuard .neq 55 p q (Ju a) (Ju b)).run prog w=.ok () w:=by
 obtain⟨⟨x0,x1⟩,x2,x3,x4⟩:=a;obtain⟨⟨y0,y1⟩,y2,y3,y4⟩:=b;unfold Ju;simp[eqGuard,go_sem]
theorem JQ(a b:Ab)(w:World):(binOp .neq 40 (D2 a) (D2 b)).run prog w=.ok (.bool (!decide (a=b))) w:=by
 obtain⟨x0,x1,x2,x3,x4,x5,x6⟩:=a;obtain⟨y0,y1,y2,y3,y4,y5,y6⟩:=b;unfold D2;by_cases h0:x0=y0
 ·subst h0;by_cases h1:x1=y1
  ·subst h1;by_cases h2:x2=y2
   ·subst h2;by_cases h3:x3=y3
    ·subst h3;by_cases h4:x4=y4
     ·subst h4;by_cases h5:x5=y5
      ·subst h5;by_cases h6:x6=y6
       ·subst h6;go_simp
       ·go_simp
      ·go_simp
     ·go_simp
    ·go_simp
   ·go_simp
  ·go_simp
 ·go_simp
theorem GD(p q:Operand)(a b:Ab)(w:World):(eqGuard .neq 40 p q (D2 a) (D2 b)).run prog w=.ok () w:=by
 obtain⟨x0,x1,x2,x3,x4,x5,x6⟩:=a;obtain⟨y0,y1,y2,y3,y4,y5,y6⟩:=b;unfold D2;simp[eqGuard,go_sem]
def LK(a b:Cd):Bool:=decide (a.sign=b.sign)&&(decide (a.regs=b.regs)&&(decide (a.slots=b.slots)&&decide (a.list=b.list)))
theorem Fb(a:Cd):LK a a=true:=by simp[LK]
theorem Hz{w v:World}{a0 a1 a2 a3 b0 b1 b2 b3:Value}{t:TypeId}(k:Below ((w.alloc (.cells #[a0,a1,a2,a3] t)).alloc (.cells #[b0,b1,b2,b3] t)).heap.size ((w.alloc (.cells #[a0,a1,a2,a3] t)).alloc (.cells #[b0,b1,b2,b3] t)) v):
 (v.cell? ⟨w.heap.size,0,none⟩=some a0/\v.cell? ⟨w.heap.size,1,none⟩=some a1/\v.cell? ⟨w.heap.size,2,none⟩=some a2/\v.cell? ⟨w.heap.size,3,none⟩=some a3)/\v.cell? ⟨w.heap.size+1,0,none⟩=some b0/\v.cell? ⟨w.heap.size+1,1,none⟩=some b1/\v.cell? ⟨w.heap.size+1,2,none⟩=some b2/\v.cell? ⟨w.heap.size+1,3,none⟩=some b3:=
 ⟨⟨kc k sG,kc k sG,kc k sG,kc k sG⟩,kc k sG,kc k sG,kc k sG,kc k sG⟩
theorem Ec(a0 a1 a2 a3 b0 b1 b2 b3:Value)(a b:Cd)(ha:Bl a)(hb:Bl b)(w:World)(hA:CY w a0 a1 a2 a3 a)(hB:CY w b0 b1 b2 b3 b):
 Calls prog 8 #[.agg #[a0,a1,a2,a3],.agg #[b0,b1,b2,b3]] w fun e w'=>e=.returned (.bool (LK a b))/\Below w.heap.size w w':=by
 have hl0:=ha.signL;have hm0:=hb.signL;have HV0:Hid (AI 3 Az w a0 a.sign):=hA.sign;have HU0:Hid (AI 3 Az w b0 b.sign):=hB.sign;have hl1:=ha.regsL;have hm1:=hb.regsL;have HV1:Hid (AI 2 DH w a1 a.regs):=hA.regs;have HU1:Hid (AI 2 DH w b1 b.regs):=hB.regs;have hl2:=ha.slotsL;have hm2:=hb.slotsL;have HV2:Hid (AI 5 Eu w a2 a.slots):=hA.slots;have HU2:Hid (AI 5 Eu w b2 b.slots):=hB.slots;have hl3:=ha.listL;have hm3:=hb.listL;have HV3:Hid (AI 7 AS w a3 a.list):=hA.list;have HU3:Hid (AI 7 AS w b3 b.list):=hB.list;obtain⟨p0,c0,rfl,-⟩:=hA.sign;obtain⟨q0,d0,rfl,-⟩:=hB.sign;obtain⟨p1,c1,rfl,-⟩:=hA.regs;obtain⟨q1,d1,rfl,-⟩:=hB.regs;obtain⟨p2,c2,rfl,-⟩:=hA.slots;obtain⟨q2,d2,rfl,-⟩:=hB.slots;obtain⟨p3,c3,rfl,-⟩:=hA.list;obtain⟨q3,d3,rfl,-⟩:=hB.list;clear hA hB ha hb;unfold LK;obtain⟨l0,hL0⟩:∃l,a.sign=l:=⟨_,rfl⟩
 obtain⟨m0,hM0⟩:∃l,b.sign=l:=⟨_,rfl⟩
 rw[hL0]at hl0 HV0 ⊢;rw[hM0]at hm0 HU0 ⊢;obtain⟨l1,hL1⟩:∃l,a.regs=l:=⟨_,rfl⟩
 obtain⟨m1,hM1⟩:∃l,b.regs=l:=⟨_,rfl⟩
 rw[hL1]at hl1 HV1 ⊢;rw[hM1]at hm1 HU1 ⊢;obtain⟨l2,hL2⟩:∃l,a.slots=l:=⟨_,rfl⟩
 obtain⟨m2,hM2⟩:∃l,b.slots=l:=⟨_,rfl⟩
 rw[hL2]at hl2 HV2 ⊢;rw[hM2]at hm2 HU2 ⊢;obtain⟨l3,hL3⟩:∃l,a.list=l:=⟨_,rfl⟩
 obtain⟨m3,hM3⟩:∃l,b.list=l:=⟨_,rfl⟩
 rw[hL3]at hl3 HV3 ⊢;rw[hM3]at hm3 HU3 ⊢;clear hL0 hL1 hL2 hL3 hM0 hM1 hM2 hM3;have HLE0:Hid (l0.length=m0.length->(l0=m0↔∀j (h1:j<l0.length) (h2:j<m0.length),l0[j]=m0[j])):=fun hne=>⟨fun e=>by subst e;exact fun j h1 h2=>rfl,fun h=>List.ext_getElem hne h⟩
 obtain⟨N0,hN0⟩:∃N,l0.length=N:=⟨_,rfl⟩
 obtain⟨M0,hM0⟩:∃N,m0.length=N:=⟨_,rfl⟩
 rw[hN0]at hl0 HV0 ⊢;rw[hM0]at hm0 HU0 ⊢;have HN0:Hid (l0.length=N0):=hN0;have HM0:Hid (m0.length=M0):=hM0;have HLE1:Hid (l1.length=m1.length->(l1=m1↔∀j (h1:j<l1.length) (h2:j<m1.length),l1[j]=m1[j])):=fun hne=>⟨fun e=>by subst e;exact fun j h1 h2=>rfl,fun h=>List.ext_getElem hne h⟩
 obtain⟨N1,hN1⟩:∃N,l1.length=N:=⟨_,rfl⟩
 obtain⟨M1,hM1⟩:∃N,m1.length=N:=⟨_,rfl⟩
 rw[hN1]at hl1 HV1 ⊢;rw[hM1]at hm1 HU1 ⊢;have HN1:Hid (l1.length=N1):=hN1;have HM1:Hid (m1.length=M1):=hM1;have HLE2:Hid (l2.length=m2.length->(l2=m2↔∀j (h1:j<l2.length) (h2:j<m2.length),l2[j]=m2[j])):=fun hne=>⟨fun e=>by subst e;exact fun j h1 h2=>rfl,fun h=>List.ext_getElem hne h⟩
 obtain⟨N2,hN2⟩:∃N,l2.length=N:=⟨_,rfl⟩
 obtain⟨M2,hM2⟩:∃N,m2.length=N:=⟨_,rfl⟩
 rw[hN2]at hl2 HV2 ⊢;rw[hM2]at hm2 HU2 ⊢;have HN2:Hid (l2.length=N2):=hN2;have HM2:Hid (m2.length=M2):=hM2;have HLE3:Hid (l3.length=m3.length->(l3=m3↔∀j (h1:j<l3.length) (h2:j<m3.length),l3[j]=m3[j])):=fun hne=>⟨fun e=>by subst e;exact fun j h1 h2=>rfl,fun h=>List.ext_getElem hne h⟩
 obtain⟨N3,hN3⟩:∃N,l3.length=N:=⟨_,rfl⟩
 obtain⟨M3,hM3⟩:∃N,m3.length=N:=⟨_,rfl⟩
 rw[hN3]at hl3 HV3 ⊢;rw[hM3]at hm3 HU3 ⊢;have HN3:Hid (l3.length=N3):=hN3;have HM3:Hid (m3.length=M3):=hM3;obtain⟨R,hR⟩:∃R,(decide (l0=m0)&&(decide (l1=m1)&&(decide (l2=m2)&&decide (l3=m3))))=R:=⟨_,rfl⟩
 rw[hR];have HR:Hid ((decide (l0=m0)&&(decide (l1=m1)&&(decide (l2=m2)&&decide (l3=m3))))=R):=hR;have HBX:Hid (∀v,Below ((w.alloc (.cells #[.slice p0 N0 c0,.slice p1 N1 c1,.slice p2 N2 c2,.slice p3 N3 c3] 27)).alloc (.cells #[.slice q0 M0 d0,.slice q1 M1 d1,.slice q2 M2 d2,.slice q3 M3 d3] 27)).heap.size ((w.alloc (.cells #[.slice p0 N0 c0,.slice p1 N1 c1,.slice p2 N2 c2,.slice p3 N3 c3] 27)).alloc (.cells #[.slice q0 M0 d0,.slice q1 M1 d1,.slice q2 M2 d2,.slice q3 M3 d3] 27)) v->(v.cell? ⟨w.heap.size,0,none⟩=some (.slice p0 N0 c0)/\v.cell? ⟨w.heap.size,1,none⟩=some (.slice p1 N1 c1)/\v.cell? ⟨w.heap.size,2,none⟩=some (.slice p2 N2 c2)/\v.cell? ⟨w.heap.size,3,none⟩=some (.slice p3 N3 c3))/\v.cell? ⟨w.heap.size+1,0,none⟩=some (.slice q0 M0 d0)/\v.cell? ⟨w.heap.size+1,1,none⟩=some (.slice q1 M1 d1)/\v.cell? ⟨w.heap.size+1,2,none⟩=some (.slice q2 M2 d2)/\v.cell? ⟨w.heap.size+1,3,none⟩=some (.slice q3 M3 d3)):=fun v k=>Hz k;have HB0:Hid (Below w.heap.size w ((w.alloc (.cells #[.slice p0 N0 c0,.slice p1 N1 c1,.slice p2 N2 c2,.slice p3 N3 c3] 27)).alloc (.cells #[.slice q0 M0 d0,.slice q1 M1 d1,.slice q2 M2 d2,.slice q3 M3 d3] 27))):=bel (A0 _ _) (A0 _ _);clear hN0 hN1 hN2 hN3 hM0 hM1 hM2 hM3 hR;by_cases e0:N0=M0
 case neg=>
  have hf:R=false:=by
   rw[←HR.out];have:decide (l0=m0)=false:=decide_eq_false fun e=>e0 (by rw[←HN0.out,←HM0.out,e]);rw[this];simp
  subst hf;have h1:((N0:Int)==(M0:Int))=false:=by have:(N0:Int)≠(M0:Int):=oM;simpa using this
  have h2:((N0:Int) != (M0:Int))=true:=by have:(N0:Int)≠(M0:Int):=oM;simpa using this
  have h3:(N0==M0)=false:=by simpa using e0
  clear HV0 HV1 HV2 HV3 HU0 HU1 HU2 HU3 HLE0 HLE1 HLE2 HLE3 e0;exact LD
 subst e0;by_cases e1:N1=M1
 case neg=>
  have hf:R=false:=by
   rw[←HR.out];have:decide (l1=m1)=false:=decide_eq_false fun e=>e1 (by rw[←HN1.out,←HM1.out,e]);rw[this];simp
  subst hf;have h1:((N1:Int)==(M1:Int))=false:=by have:(N1:Int)≠(M1:Int):=oM;simpa using this
  have h2:((N1:Int) != (M1:Int))=true:=by have:(N1:Int)≠(M1:Int):=oM;simpa using this
  have h3:(N1==M1)=false:=by simpa using e1
  clear HV0 HV1 HV2 HV3 HU0 HU1 HU2 HU3 HLE0 HLE1 HLE2 HLE3 e1;exact LD
 subst e1;by_cases e2:N2=M2
 case neg=>
  have hf:R=false:=by
   rw[←HR.out];have:decide (l2=m2)=false:=decide_eq_false fun e=>e2 (by rw[←HN2.out,←HM2.out,e]);rw[this];simp
  subst hf;have h1:((N2:Int)==(M2:Int))=false:=by have:(N2:Int)≠(M2:Int):=oM;simpa using this
  have h2:((N2:Int) != (M2:Int))=true:=by have:(N2:Int)≠(M2:Int):=oM;simpa using this
  have h3:(N2==M2)=false:=by simpa using e2
  clear HV0 HV1 HV2 HV3 HU0 HU1 HU2 HU3 HLE0 HLE1 HLE2 HLE3 e2;exact LD
 subst e2;by_cases e3:N3=M3
 case neg=>
  have hf:R=false:=by
   rw[←HR.out];have:decide (l3=m3)=false:=decide_eq_false fun e=>e3 (by rw[←HN3.out,←HM3.out,e]);rw[this];simp
  subst hf;have h1:((N3:Int)==(M3:Int))=false:=by have:(N3:Int)≠(M3:Int):=oM;simpa using this
  have h2:((N3:Int) != (M3:Int))=true:=by have:(N3:Int)≠(M3:Int):=oM;simpa using this
  have h3:(N3==M3)=false:=by simpa using e3
  clear HV0 HV1 HV2 HV3 HU0 HU1 HU2 HU3 HLE0 HLE1 HLE2 HLE3 e3;exact LD
 subst e3;go_enter func8,ntmps8;go_wp2;obtain⟨V,hV⟩:∃V,((w.alloc (.cells #[.slice p0 N0 c0,.slice p1 N1 c1,.slice p2 N2 c2,.slice p3 N3 c3] 27)).alloc (.cells #[.slice q0 N0 d0,.slice q1 N1 d1,.slice q2 N2 d2,.slice q3 N3 d3] 27))=V:=⟨_,rfl⟩
 rw[hV]at HBX HB0 ⊢;have HBV:Hid (∀v,Below V.heap.size V v->(v.cell? ⟨w.heap.size,0,none⟩=some (.slice p0 N0 c0)/\v.cell? ⟨w.heap.size,1,none⟩=some (.slice p1 N1 c1)/\v.cell? ⟨w.heap.size,2,none⟩=some (.slice p2 N2 c2)/\v.cell? ⟨w.heap.size,3,none⟩=some (.slice p3 N3 c3))/\v.cell? ⟨w.heap.size+1,0,none⟩=some (.slice q0 N0 d0)/\v.cell? ⟨w.heap.size+1,1,none⟩=some (.slice q1 N1 d1)/\v.cell? ⟨w.heap.size+1,2,none⟩=some (.slice q2 N2 d2)/\v.cell? ⟨w.heap.size+1,3,none⟩=some (.slice q3 N3 d3)):=HBX.out;obtain⟨⟨z0,z1,z2,z3⟩,y0,y1,y2,y3⟩:=HBV.out V (D0 V);clear HBX hV
 go_loopw [5] (fun iv wr=>Below V.heap.size V wr/\∃j:Nat,j<=N0/\iv=.int .i64 j/\Hid (∀i (h1:i<l0.length) (h2:i<m0.length),i<j->l0[i]=m0[i])) (fun iv _=>N0-(intOf iv).toNat)
 case atStart=>exact⟨D0 V,0,Nat.zero_le _,rfl,fun i _ _ hi=>absurd hi (Nat.not_lt_zero _)⟩
 case round=>
  obtain⟨hbv,j,hj,rfl,hp⟩:=hrel;obtain⟨⟨g0,g1,g2,g3⟩,g4,g5,g6,g7⟩:=HBV.out wr hbv;by_cases hlt:j<N0
  ·have h1:j<l0.length:=by rw[HN0.out];exact hlt
   have h2:j<m0.length:=by rw[HM0.out];exact hlt
   obtain⟨b,o,rfl,hx⟩:=HV0.out.at h1;obtain⟨b',o',rfl,hy⟩:=HU0.out.at h2;have hx':=hx.below (bel HB0.out hbv);have hy':=hy.below (bel HB0.out hbv);have x0:=hx'.at 0 rfl;have w0:=hy'.at 0 rfl;have x1:=hx'.at 1 rfl;have w1:=hy'.at 1 rfl;have x2:=hx'.at 2 rfl;have w2:=hy'.at 2 rfl;rw[Nat.add_zero]at x0 w0;have NE:=JR l0[j] m0[j];have NX:Hid (l0[j]=m0[j]->∀i (h1:i<l0.length) (h2:i<m0.length),i<j+1->l0[i]=m0[i]):=fun e i h1 h2 hi=>by
    exact LG
   have NB:Hid (¬l0[j]=m0[j]->R=false):=fun e=>by
    rw[←HR.out];have:decide (l0=m0)=false:=decide_eq_false fun e2=>e ((HLE0.out (by rw[HN0.out,HM0.out])).1 e2 j h1 h2);rw[this];simp
   obtain⟨X,hX⟩:∃X,l0[j]=X:=⟨_,rfl⟩
   obtain⟨Y,hY⟩:∃Y,m0[j]=Y:=⟨_,rfl⟩
   rw[hX]at x0 x1 x2 NX NB;rw[hY]at w0 w1 w2 NX NB;simp only[hX,hY]at NE;obtain⟨D,hD⟩:∃D,decide (X=Y)=D:=⟨_,rfl⟩
   simp only[hD]at NE;unfold pv at NE;have HNE:Hid (∀w,(binOp .neq 42 (.agg #[.string X.name,.int .i64 X.kind,.int .i64 X.len]) (.agg #[.string Y.name,.int .i64 Y.kind,.int .i64 Y.len])).run prog w=.ok (.bool (!D)) w):=NE;have i1:(0:Int)<=(j:Int):=oM;have i2:(j:Int)<(N0:Int):=oM;clear NE hX hY hp hx hy hx' hy';cases D
   ·have HB:Hid (¬X=Y):=(show¬X=Y from of_decide_eq_false hD)
    clear hD;go_wp2;refine rG (fun v=>v.cell? ⟨w.heap.size,0,none⟩=some (.slice (some ⟨b,o,none⟩) N0 c0)/\v.cell? ⟨w.heap.size+1,0,none⟩=some (.slice (some ⟨b',o',none⟩) N0 d0)/\v.cell? ⟨b,o+j*3,none⟩=some (.string X.name)/\v.cell? ⟨b,o+j*3+1,none⟩=some (.int .i64 X.kind)/\v.cell? ⟨b,o+j*3+2,none⟩=some (.int .i64 X.len)/\v.cell? ⟨b',o'+j*3,none⟩=some (.string Y.name)/\v.cell? ⟨b',o'+j*3+1,none⟩=some (.int .i64 Y.kind)/\v.cell? ⟨b',o'+j*3+2,none⟩=some (.int .i64 Y.len)) fun hHeld=>?_;refine Tf 0 1 2 3 4 5 ?_;refine Tc 6 7 8 ?_;refine Bo 9 ?_;clear hHeld;refine Aw 10 fun K hK=>?_;refine BE rF _ _ _ _ rF _ _ _ rF rF (GF _ _ X Y _) (HNE.out _) ?_;exact LA
   ·have HE:Hid (X=Y):=(show X=Y from of_decide_eq_true hD)
    clear hD;go_wp2;refine rG (fun v=>v.cell? ⟨w.heap.size,0,none⟩=some (.slice (some ⟨b,o,none⟩) N0 c0)/\v.cell? ⟨w.heap.size+1,0,none⟩=some (.slice (some ⟨b',o',none⟩) N0 d0)/\v.cell? ⟨b,o+j*3,none⟩=some (.string X.name)/\v.cell? ⟨b,o+j*3+1,none⟩=some (.int .i64 X.kind)/\v.cell? ⟨b,o+j*3+2,none⟩=some (.int .i64 X.len)/\v.cell? ⟨b',o'+j*3,none⟩=some (.string Y.name)/\v.cell? ⟨b',o'+j*3+1,none⟩=some (.int .i64 Y.kind)/\v.cell? ⟨b',o'+j*3+2,none⟩=some (.int .i64 Y.len)) fun hHeld=>?_;refine Tf 0 1 2 3 4 5 ?_;refine Tc 6 7 8 ?_;refine Bo 9 ?_;clear hHeld;refine Aw 10 fun K hK=>?_;refine BE rF _ _ _ _ rF _ _ _ rF rF (GF _ _ X Y _) (HNE.out _) ?_;exact Lx
  ·have hjN:j=N0:=oM;have HF0:Hid (l0=m0):=(HLE0.out (by rw[HN0.out,HM0.out])).2 fun i h1 h2=>hp.out i h1 h2 (by rw[hjN,←HN0.out];exact h1);have HBW0:Hid (Below V.heap.size V wr):=hbv;subst hjN;clear hp hbv;go_wp2
   go_loopw [6] (fun iv wr=>Below V.heap.size V wr/\∃j:Nat,j<=N1/\iv=.int .i64 j/\Hid (∀i (h1:i<l1.length) (h2:i<m1.length),i<j->l1[i]=m1[i])) (fun iv _=>N1-(intOf iv).toNat)
   case atStart=>exact⟨HBW0.out,0,Nat.zero_le _,rfl,fun i _ _ hi=>absurd hi (Nat.not_lt_zero _)⟩
   case round=>
    obtain⟨hbv,j,hj,rfl,hp⟩:=hrel;obtain⟨⟨g0,g1,g2,g3⟩,g4,g5,g6,g7⟩:=HBV.out wr hbv;by_cases hlt:j<N1
    ·have h1:j<l1.length:=by rw[HN1.out];exact hlt
     have h2:j<m1.length:=by rw[HM1.out];exact hlt
     obtain⟨b,o,rfl,hx⟩:=HV1.out.at h1;obtain⟨b',o',rfl,hy⟩:=HU1.out.at h2;have hx':=hx.below (bel HB0.out hbv);have hy':=hy.below (bel HB0.out hbv);have x0:=hx'.at 0 rfl;have w0:=hy'.at 0 rfl;have x1:=hx'.at 1 rfl;have w1:=hy'.at 1 rfl;rw[Nat.add_zero]at x0 w0;have NE:=KO l1[j] m1[j];have NX:Hid (l1[j]=m1[j]->∀i (h1:i<l1.length) (h2:i<m1.length),i<j+1->l1[i]=m1[i]):=fun e i h1 h2 hi=>by
      exact LG
     have NB:Hid (¬l1[j]=m1[j]->R=false):=fun e=>by
      rw[←HR.out];have:decide (l1=m1)=false:=decide_eq_false fun e2=>e ((HLE1.out (by rw[HN1.out,HM1.out])).1 e2 j h1 h2);rw[this];simp
     obtain⟨X,hX⟩:∃X,l1[j]=X:=⟨_,rfl⟩
     obtain⟨Y,hY⟩:∃Y,m1[j]=Y:=⟨_,rfl⟩
     rw[hX]at x0 x1 NX NB;rw[hY]at w0 w1 NX NB;simp only[hX,hY]at NE;obtain⟨D,hD⟩:∃D,decide (X=Y)=D:=⟨_,rfl⟩
     simp only[hD]at NE;unfold CQ at NE;have HNE:Hid (∀w,(binOp .neq 50 (.agg #[.int .i64 X.kind,.int .i64 X.par]) (.agg #[.int .i64 Y.kind,.int .i64 Y.par])).run prog w=.ok (.bool (!D)) w):=NE;have i1:(0:Int)<=(j:Int):=oM;have i2:(j:Int)<(N1:Int):=oM;clear NE hX hY hp hx hy hx' hy';cases D
     ·have HB:Hid (¬X=Y):=(show¬X=Y from of_decide_eq_false hD)
      clear hD;go_wp2;refine rG (fun v=>v.cell? ⟨w.heap.size,1,none⟩=some (.slice (some ⟨b,o,none⟩) N1 c1)/\v.cell? ⟨w.heap.size+1,1,none⟩=some (.slice (some ⟨b',o',none⟩) N1 d1)/\v.cell? ⟨b,o+j*2,none⟩=some (.int .i64 X.kind)/\v.cell? ⟨b,o+j*2+1,none⟩=some (.int .i64 X.par)/\v.cell? ⟨b',o'+j*2,none⟩=some (.int .i64 Y.kind)/\v.cell? ⟨b',o'+j*2+1,none⟩=some (.int .i64 Y.par)) fun hHeld=>?_;refine Tf 0 1 2 3 4 5 ?_;refine Tc 6 7 8 ?_;refine Bo 9 ?_;clear hHeld;refine Aw 10 fun K hK=>?_;refine BE rF _ _ _ _ rF _ _ _ rF rF (I9 _ _ X Y _) (HNE.out _) ?_;exact LA
     ·have HE:Hid (X=Y):=(show X=Y from of_decide_eq_true hD)
      clear hD;go_wp2;refine rG (fun v=>v.cell? ⟨w.heap.size,1,none⟩=some (.slice (some ⟨b,o,none⟩) N1 c1)/\v.cell? ⟨w.heap.size+1,1,none⟩=some (.slice (some ⟨b',o',none⟩) N1 d1)/\v.cell? ⟨b,o+j*2,none⟩=some (.int .i64 X.kind)/\v.cell? ⟨b,o+j*2+1,none⟩=some (.int .i64 X.par)/\v.cell? ⟨b',o'+j*2,none⟩=some (.int .i64 Y.kind)/\v.cell? ⟨b',o'+j*2+1,none⟩=some (.int .i64 Y.par)) fun hHeld=>?_;refine Tf 0 1 2 3 4 5 ?_;refine Tc 6 7 8 ?_;refine Bo 9 ?_;clear hHeld;refine Aw 10 fun K hK=>?_;refine BE rF _ _ _ _ rF _ _ _ rF rF (I9 _ _ X Y _) (HNE.out _) ?_;exact Lx
    ·have hjN:j=N1:=oM;have HF1:Hid (l1=m1):=(HLE1.out (by rw[HN1.out,HM1.out])).2 fun i h1 h2=>hp.out i h1 h2 (by rw[hjN,←HN1.out];exact h1);have HBW1:Hid (Below V.heap.size V wr):=hbv;subst hjN;clear hp hbv;go_wp2
     go_loopw [7] (fun iv wr=>Below V.heap.size V wr/\∃j:Nat,j<=N2/\iv=.int .i64 j/\Hid (∀i (h1:i<l2.length) (h2:i<m2.length),i<j->l2[i]=m2[i])) (fun iv _=>N2-(intOf iv).toNat)
     case atStart=>exact⟨HBW1.out,0,Nat.zero_le _,rfl,fun i _ _ hi=>absurd hi (Nat.not_lt_zero _)⟩
     case round=>
      obtain⟨hbv,j,hj,rfl,hp⟩:=hrel;obtain⟨⟨g0,g1,g2,g3⟩,g4,g5,g6,g7⟩:=HBV.out wr hbv;by_cases hlt:j<N2
      ·have h1:j<l2.length:=by rw[HN2.out];exact hlt
       have h2:j<m2.length:=by rw[HM2.out];exact hlt
       obtain⟨b,o,rfl,hx⟩:=HV2.out.at h1;obtain⟨b',o',rfl,hy⟩:=HU2.out.at h2;have hx':=hx.below (bel HB0.out hbv);have hy':=hy.below (bel HB0.out hbv);have x0:=hx'.at 0 rfl;have w0:=hy'.at 0 rfl;have x1:=hx'.at 1 rfl;have w1:=hy'.at 1 rfl;have x2:=hx'.at 2 rfl;have w2:=hy'.at 2 rfl;have x3:=hx'.at 3 rfl;have w3:=hy'.at 3 rfl;have x4:=hx'.at 4 rfl;have w4:=hy'.at 4 rfl;rw[Nat.add_zero]at x0 w0;have NE:=KK l2[j] m2[j];have NX:Hid (l2[j]=m2[j]->∀i (h1:i<l2.length) (h2:i<m2.length),i<j+1->l2[i]=m2[i]):=fun e i h1 h2 hi=>by
        exact LG
       have NB:Hid (¬l2[j]=m2[j]->R=false):=fun e=>by
        rw[←HR.out];have:decide (l2=m2)=false:=decide_eq_false fun e2=>e ((HLE2.out (by rw[HN2.out,HM2.out])).1 e2 j h1 h2);rw[this];simp
       obtain⟨X,hX⟩:∃X,l2[j]=X:=⟨_,rfl⟩
       obtain⟨Y,hY⟩:∃Y,m2[j]=Y:=⟨_,rfl⟩
       rw[hX]at x0 x1 x2 x3 x4 NX NB;rw[hY]at w0 w1 w2 w3 w4 NX NB;simp only[hX,hY]at NE;obtain⟨D,hD⟩:∃D,decide (X=Y)=D:=⟨_,rfl⟩
       simp only[hD]at NE;unfold Ju at NE;have HNE:Hid (∀w,(binOp .neq 55 (.agg #[.int .i64 X.ty.kind,.int .i64 X.ty.par,.bool X.keep,.int .u32 X.bits,.int .i64 X.int_]) (.agg #[.int .i64 Y.ty.kind,.int .i64 Y.ty.par,.bool Y.keep,.int .u32 Y.bits,.int .i64 Y.int_])).run prog w=.ok (.bool (!D)) w):=NE;have i1:(0:Int)<=(j:Int):=oM;have i2:(j:Int)<(N2:Int):=oM;clear NE hX hY hp hx hy hx' hy';cases D
       ·have HB:Hid (¬X=Y):=(show¬X=Y from of_decide_eq_false hD)
        clear hD;go_wp2;refine rG (fun v=>v.cell? ⟨w.heap.size,2,none⟩=some (.slice (some ⟨b,o,none⟩) N2 c2)/\v.cell? ⟨w.heap.size+1,2,none⟩=some (.slice (some ⟨b',o',none⟩) N2 d2)/\v.cell? ⟨b,o+j*5,none⟩=some (.int .i64 X.ty.kind)/\v.cell? ⟨b,o+j*5+1,none⟩=some (.int .i64 X.ty.par)/\v.cell? ⟨b,o+j*5+2,none⟩=some (.bool X.keep)/\v.cell? ⟨b,o+j*5+3,none⟩=some (.int .u32 X.bits)/\v.cell? ⟨b,o+j*5+4,none⟩=some (.int .i64 X.int_)/\v.cell? ⟨b',o'+j*5,none⟩=some (.int .i64 Y.ty.kind)/\v.cell? ⟨b',o'+j*5+1,none⟩=some (.int .i64 Y.ty.par)/\v.cell? ⟨b',o'+j*5+2,none⟩=some (.bool Y.keep)/\v.cell? ⟨b',o'+j*5+3,none⟩=some (.int .u32 Y.bits)/\v.cell? ⟨b',o'+j*5+4,none⟩=some (.int .i64 Y.int_)) fun hHeld=>?_;refine Tf 0 1 2 3 4 5 ?_;refine Tc 6 7 8 ?_;refine Bo 9 ?_;clear hHeld;refine Aw 10 fun K hK=>?_;refine BE rF _ _ _ _ rF _ _ _ rF rF (I8 _ _ X Y _) (HNE.out _) ?_;exact LA
       ·have HE:Hid (X=Y):=(show X=Y from of_decide_eq_true hD)
        clear hD;go_wp2;refine rG (fun v=>v.cell? ⟨w.heap.size,2,none⟩=some (.slice (some ⟨b,o,none⟩) N2 c2)/\v.cell? ⟨w.heap.size+1,2,none⟩=some (.slice (some ⟨b',o',none⟩) N2 d2)/\v.cell? ⟨b,o+j*5,none⟩=some (.int .i64 X.ty.kind)/\v.cell? ⟨b,o+j*5+1,none⟩=some (.int .i64 X.ty.par)/\v.cell? ⟨b,o+j*5+2,none⟩=some (.bool X.keep)/\v.cell? ⟨b,o+j*5+3,none⟩=some (.int .u32 X.bits)/\v.cell? ⟨b,o+j*5+4,none⟩=some (.int .i64 X.int_)/\v.cell? ⟨b',o'+j*5,none⟩=some (.int .i64 Y.ty.kind)/\v.cell? ⟨b',o'+j*5+1,none⟩=some (.int .i64 Y.ty.par)/\v.cell? ⟨b',o'+j*5+2,none⟩=some (.bool Y.keep)/\v.cell? ⟨b',o'+j*5+3,none⟩=some (.int .u32 Y.bits)/\v.cell? ⟨b',o'+j*5+4,none⟩=some (.int .i64 Y.int_)) fun hHeld=>?_;refine Tf 0 1 2 3 4 5 ?_;refine Tc 6 7 8 ?_;refine Bo 9 ?_;clear hHeld;refine Aw 10 fun K hK=>?_;refine BE rF _ _ _ _ rF _ _ _ rF rF (I8 _ _ X Y _) (HNE.out _) ?_;exact Lx
      ·have hjN:j=N2:=oM;have HF2:Hid (l2=m2):=(HLE2.out (by rw[HN2.out,HM2.out])).2 fun i h1 h2=>hp.out i h1 h2 (by rw[hjN,←HN2.out];exact h1);have HBW2:Hid (Below V.heap.size V wr):=hbv;subst hjN;clear hp hbv;go_wp2
       go_loopw [8] (fun iv wr=>Below V.heap.size V wr/\∃j:Nat,j<=N3/\iv=.int .i64 j/\Hid (∀i (h1:i<l3.length) (h2:i<m3.length),i<j->l3[i]=m3[i])) (fun iv _=>N3-(intOf iv).toNat)
       case atStart=>exact⟨HBW2.out,0,Nat.zero_le _,rfl,fun i _ _ hi=>absurd hi (Nat.not_lt_zero _)⟩
       case round=>
        obtain⟨hbv,j,hj,rfl,hp⟩:=hrel;obtain⟨⟨g0,g1,g2,g3⟩,g4,g5,g6,g7⟩:=HBV.out wr hbv;by_cases hlt:j<N3
        ·have h1:j<l3.length:=by rw[HN3.out];exact hlt
         have h2:j<m3.length:=by rw[HM3.out];exact hlt
         obtain⟨b,o,rfl,hx⟩:=HV3.out.at h1;obtain⟨b',o',rfl,hy⟩:=HU3.out.at h2;have hx':=hx.below (bel HB0.out hbv);have hy':=hy.below (bel HB0.out hbv);have x0:=hx'.at 0 rfl;have w0:=hy'.at 0 rfl;have x1:=hx'.at 1 rfl;have w1:=hy'.at 1 rfl;have x2:=hx'.at 2 rfl;have w2:=hy'.at 2 rfl;have x3:=hx'.at 3 rfl;have w3:=hy'.at 3 rfl;have x4:=hx'.at 4 rfl;have w4:=hy'.at 4 rfl;have x5:=hx'.at 5 rfl;have w5:=hy'.at 5 rfl;have x6:=hx'.at 6 rfl;have w6:=hy'.at 6 rfl;rw[Nat.add_zero]at x0 w0;have NE:=JQ l3[j] m3[j];have NX:Hid (l3[j]=m3[j]->∀i (h1:i<l3.length) (h2:i<m3.length),i<j+1->l3[i]=m3[i]):=fun e i h1 h2 hi=>by
          exact LG
         have NB:Hid (¬l3[j]=m3[j]->R=false):=fun e=>by
          rw[←HR.out];have:decide (l3=m3)=false:=decide_eq_false fun e2=>e ((HLE3.out (by rw[HN3.out,HM3.out])).1 e2 j h1 h2);rw[this];simp
         obtain⟨X,hX⟩:∃X,l3[j]=X:=⟨_,rfl⟩
         obtain⟨Y,hY⟩:∃Y,m3[j]=Y:=⟨_,rfl⟩
         rw[hX]at x0 x1 x2 x3 x4 x5 x6 NX NB;rw[hY]at w0 w1 w2 w3 w4 w5 w6 NX NB;simp only[hX,hY]at NE;obtain⟨D,hD⟩:∃D,decide (X=Y)=D:=⟨_,rfl⟩
         simp only[hD]at NE;unfold D2 at NE;have HNE:Hid (∀w,(binOp .neq 40 (.agg #[.int .i64 X.op,.int .i64 X.d,.int .i64 X.a,.int .i64 X.b,.int .i64 X.c,.int .i64 X.n,.int .u32 X.bits]) (.agg #[.int .i64 Y.op,.int .i64 Y.d,.int .i64 Y.a,.int .i64 Y.b,.int .i64 Y.c,.int .i64 Y.n,.int .u32 Y.bits])).run prog w=.ok (.bool (!D)) w):=NE;have i1:(0:Int)<=(j:Int):=oM;have i2:(j:Int)<(N3:Int):=oM;clear NE hX hY hp hx hy hx' hy';cases D
         ·have HB:Hid (¬X=Y):=(show¬X=Y from of_decide_eq_false hD)
          clear hD;go_wp2;refine rG (fun v=>v.cell? ⟨w.heap.size,3,none⟩=some (.slice (some ⟨b,o,none⟩) N3 c3)/\v.cell? ⟨w.heap.size+1,3,none⟩=some (.slice (some ⟨b',o',none⟩) N3 d3)/\v.cell? ⟨b,o+j*7,none⟩=some (.int .i64 X.op)/\v.cell? ⟨b,o+j*7+1,none⟩=some (.int .i64 X.d)/\v.cell? ⟨b,o+j*7+2,none⟩=some (.int .i64 X.a)/\v.cell? ⟨b,o+j*7+3,none⟩=some (.int .i64 X.b)/\v.cell? ⟨b,o+j*7+4,none⟩=some (.int .i64 X.c)/\v.cell? ⟨b,o+j*7+5,none⟩=some (.int .i64 X.n)/\v.cell? ⟨b,o+j*7+6,none⟩=some (.int .u32 X.bits)/\v.cell? ⟨b',o'+j*7,none⟩=some (.int .i64 Y.op)/\v.cell? ⟨b',o'+j*7+1,none⟩=some (.int .i64 Y.d)/\v.cell? ⟨b',o'+j*7+2,none⟩=some (.int .i64 Y.a)/\v.cell? ⟨b',o'+j*7+3,none⟩=some (.int .i64 Y.b)/\v.cell? ⟨b',o'+j*7+4,none⟩=some (.int .i64 Y.c)/\v.cell? ⟨b',o'+j*7+5,none⟩=some (.int .i64 Y.n)/\v.cell? ⟨b',o'+j*7+6,none⟩=some (.int .u32 Y.bits)) fun hHeld=>?_;refine Tf 0 1 2 3 4 5 ?_;refine Tc 6 7 8 ?_;refine Bo 9 ?_;clear hHeld;refine Aw 10 fun K hK=>?_;refine BE rF _ _ _ _ rF _ _ _ rF rF (GD _ _ X Y _) (HNE.out _) ?_;exact LA
         ·have HE:Hid (X=Y):=(show X=Y from of_decide_eq_true hD)
          clear hD;go_wp2;refine rG (fun v=>v.cell? ⟨w.heap.size,3,none⟩=some (.slice (some ⟨b,o,none⟩) N3 c3)/\v.cell? ⟨w.heap.size+1,3,none⟩=some (.slice (some ⟨b',o',none⟩) N3 d3)/\v.cell? ⟨b,o+j*7,none⟩=some (.int .i64 X.op)/\v.cell? ⟨b,o+j*7+1,none⟩=some (.int .i64 X.d)/\v.cell? ⟨b,o+j*7+2,none⟩=some (.int .i64 X.a)/\v.cell? ⟨b,o+j*7+3,none⟩=some (.int .i64 X.b)/\v.cell? ⟨b,o+j*7+4,none⟩=some (.int .i64 X.c)/\v.cell? ⟨b,o+j*7+5,none⟩=some (.int .i64 X.n)/\v.cell? ⟨b,o+j*7+6,none⟩=some (.int .u32 X.bits)/\v.cell? ⟨b',o'+j*7,none⟩=some (.int .i64 Y.op)/\v.cell? ⟨b',o'+j*7+1,none⟩=some (.int .i64 Y.d)/\v.cell? ⟨b',o'+j*7+2,none⟩=some (.int .i64 Y.a)/\v.cell? ⟨b',o'+j*7+3,none⟩=some (.int .i64 Y.b)/\v.cell? ⟨b',o'+j*7+4,none⟩=some (.int .i64 Y.c)/\v.cell? ⟨b',o'+j*7+5,none⟩=some (.int .i64 Y.n)/\v.cell? ⟨b',o'+j*7+6,none⟩=some (.int .u32 Y.bits)) fun hHeld=>?_;refine Tf 0 1 2 3 4 5 ?_;refine Tc 6 7 8 ?_;refine Bo 9 ?_;clear hHeld;refine Aw 10 fun K hK=>?_;refine BE rF _ _ _ _ rF _ _ _ rF rF (GD _ _ X Y _) (HNE.out _) ?_;exact Lx
        ·have hjN:j=N3:=oM;have HF3:Hid (l3=m3):=(HLE3.out (by rw[HN3.out,HM3.out])).2 fun i h1 h2=>hp.out i h1 h2 (by rw[hjN,←HN3.out];exact h1);have HBW3:Hid (Below V.heap.size V wr):=hbv;subst hjN;clear hp hbv;go_wp2;go_ret;exact⟨Af (by rw[←HR.out,HF0.out,HF1.out,HF2.out,HF3.out];simp),bel HB0.out HBW3.out⟩
section
variable {c c' : Cd} {G P : List (List Int)} {f f' : Fr} {i i' : Ab}
end

theorem Ip:∀x:Ba,∀u∈Az x,u.oneCell'=true:=fun x u hu=>by simp[Az]at hu;rcases hu with rfl|rfl|rfl<;>rfl
theorem Hb:(prog.info? 50).map (fun i=>(i.zero,i.size,i.bytes))=some (some (.agg #[.int .i64 0,.int .i64 0]),2,16):=kR
theorem Ha:(prog.info? 55).map (fun i=>(i.zero,i.size,i.bytes))=some (some (.agg #[.int .i64 0,.int .i64 0,.bool false,.int .u32 0,.int .i64 0]),5,32):=kR
def f4(a b c d:Value)(j:Nat):Value:=if j=0 then a else if j=1 then b else if j=2 then c else d
structure Kq(B:Nat)(w:World)(u0 u1 u2 u3:Value)(c:Cd):Prop where
 sign:w.ownsRow B 42 3 u0 c.sign.length (Al Az c.sign)
 regs:w.ownsRow B 50 2 u1 c.regs.length (Al DH c.regs)
 slots:w.ownsRow B 55 5 u2 c.slots.length (Al Eu c.slots)
 list:w.ownsRow B 40 7 u3 c.list.length (Al AS c.list)
structure LN(c:Cd):Prop where
 s:c.sign.length*32<=140737488351232
 r:c.regs.length*16<=140737488351232
 l:c.slots.length*32<=140737488351232
 i:c.list.length*56<=140737488351232
structure LP(c c':Cd)(K U W:Nat->Bool)(F:Ab->Ab)(rho sig:Nat->Nat):Prop where
 sign:c'.sign=c.sign
 ty:∀r,U r=true->Dr c'.regs ((rho r:Nat):Int)=Dr c.regs (r:Int)
 fd:∀i,(A4 i.op).d≠0->(F i).d=((rho i.d.toNat:Nat):Int)
 fa:∀i,(A4 i.op).a≠0->(F i).a=((rho i.a.toNat:Nat):Int)
 fb:∀i,(A4 i.op).b≠0->(F i).b=((rho i.b.toNat:Nat):Int)
 fc:∀i,(A4 i.op).c≠0->(F i).c=((rho i.c.toNat:Nat):Int)
 fn:∀i,i.op≠32->i.op≠33->(F i).n=i.n
 fs:∀i,(i.op=32\/i.op=33)->(F i).n=((sig i.n.toNat:Nat):Int)
 bits:∀i,(F i).bits=i.bits
 out:∀k (hk:k<c.list.length),c.list[k].op=31->K k=true
 used:∀k (hk:k<c.list.length),K k=true->(c.list[k].op=32\/c.list[k].op=33)->W c.list[k].n.toNat=true
 gone:∀k (hk:k<c.list.length),K k=false->c.list[k].op=33->W c.list[k].n.toNat=false
 injS:∀m n,W m=true->W n=true->sig m=sig n->m=n
 lt:∀n,W n=true->n<c.slots.length->sig n<c'.slots.length
section
variable {c c' : Cd} {K U W : Nat -> Bool} {F : Ab -> Ab} {rho sig : Nat -> Nat} {G P : List (List Int)} {f f' : Fr}
theorem Dg{x:Wk}{i:Ab}(t:AM c x i=true)(o:i.op=32\/i.op=33):0<=i.n/\i.n<(c.slots.length:Int):=by
 obtain⟨t1,t2,t3,t4⟩:=Ar t;unfold AR at t2;simp only[Bool.and_eq_true]at t2;have h:=t2.2.2.2.2;have hn:(A4 i.op).n=10:=by rcases o with e|e<;>(rw[e];decide)
 unfold Bt at h;rw[if_neg (by rw[hn];decide)]at h;simp only[Bool.and_eq_true]at h;have h2:=h.2;unfold DU at h2;rw[if_neg (by rw[hn];decide),if_neg (by rw[hn];decide),if_pos hn]at h2;simp only[Bool.and_eq_true]at h2;exact Bv.1 h2.1
end
theorem I2{α:Type}{f:α->List Value}{k bytes:Nat}{t e:TypeId}{z:Value}{i:TypeInfo}(hk:0<k)(hf:∀x,(f x).length=k)(h1:∀x,∀u∈f x,u.oneCell'=true)(ht:prog.underlying t=some (.slice e))(hi:prog.info? e=some i)(hz:i.zero=some z)(hsize:i.size=k)(hby:i.bytes=bytes)(hzs:z.cells.size=k)
 {l:List α} {p:Option Addr} {d:Nat} {w:World} (h:AI k f w (.slice p l.length d) l) (hl:l.length<=maxLen) (hb:l.length*bytes<=140737488355328) (ty:TypeId):
 ∃p' c' w',(Builtin.append_ #[t,t] ty #[.slice (some ⟨w.heap.size,0,none⟩) 0 0,.slice p l.length d]).run prog (w.alloc (.cells #[] e))=.ok (.slice p' l.length c') w'/\Below w.heap.size w w'/\Kr (fun b=>b<w.heap.size) k f w' (.slice p' l.length c') l/\w'.ownsRow w.heap.size e k (.slice p' l.length c') l.length (Al f l):=by
 have hown0:(w.alloc (.cells #[] e)).ownsRow w.heap.size e k (.slice (some ⟨w.heap.size,0,none⟩) 0 0) 0 []:=⟨sM,.inr ⟨w.heap.size,0,#[],rfl,Nat.le_refl _,heap_alloc_new w _,Nat.le_refl _,mL,sM,sM⟩⟩
 by_cases h0:l=[]
 ·subst h0;refine⟨some ⟨w.heap.size,0,none⟩,0,w.alloc (.cells #[] e),?_,A0 _ _,⟨_,_,rfl,.inl rfl⟩,by simpa[Al]using hown0⟩;cases p with
  |none=>simp[Builtin.append_,run_underlying ht,sizeOf,typeInfo,hi,Builtin.lenOf,Builtin.firstCells,storeCells]
  |some a=>simp[Builtin.append_,run_underlying ht,sizeOf,typeInfo,hi,Builtin.lenOf,Builtin.firstCells,storeCells,loadCells,loadCellsFrom]
 ·have h':=h.below (A0 w (.cells #[] e));obtain⟨p',c',hv,h2⟩:=h';simp only[Value.slice.injEq]at hv;obtain⟨rfl,-,rfl⟩:=hv;obtain⟨b,o,rfl,h3⟩:=h2.resolve_left h0;clear h2;have hpos:0<l.length:=List.length_pos_iff.2 h0;obtain⟨g,cap,w',hr,hown,hg,hat,hlt⟩:=run_append_lies (P:=prog) (w.alloc (.cells #[] e)) t ty w.heap.size e i z k bytes ht hi hz hsize hby hzs hk (.slice (some ⟨w.heap.size,0,none⟩) 0 0) 0 [] hown0 ⟨b,o,none⟩ l.length d (Al f l) (Cs hf l) (Hs hk hf h3) (by intro u hu;obtain⟨x,_,hx⟩:=List.mem_flatMap.1 hu;exact h1 x u hx) hpos oM (by rw[Nat.zero_add];exact hb) sM _ rfl;rw[Nat.zero_add]at hr hown;rw[List.nil_append]at hown;have hgb:∀g',(Value.slice (some ⟨g,0,none⟩) l.length cap).ownBlock=some g'->w.heap.size<=g':=fun g' e=>(hown.lt g' e).1;refine⟨_,cap,w',hr,⟨hg.os,hg.tape,hg.output,Nat.le_trans sM hg.size,fun j hj=>(hg.block j sO (by show some j≠some w.heap.size;simp;omega)).trans ((A0 w (.cells #[] e)).block j hj)⟩,?_,hown⟩;obtain⟨q,cc,hq,hrow⟩:=C9 hf hown;simp only[Value.slice.injEq]at hq;obtain⟨rfl,-,rfl⟩:=hq;refine⟨_,_,rfl,hrow.imp id fun⟨b',o',hp,hh⟩=>⟨b',o',hp,?_,?_,hh⟩⟩
  ·simp only[Option.some.injEq,Addr.mk.injEq]at hp;have:=hgb g rfl;omega
  ·simp only[Option.some.injEq,Addr.mk.injEq]at hp;have:=(hown.lt g rfl).2;omega
theorem H5(v:Value)(l:List Ba)(w:World)(h:AI 3 Az w v l)(hl:l.length<=1000000):
 Calls prog 16 #[v] w fun e w'=>∃p c,e=.returned (.slice p l.length c)/\Kr (fun b=>b<w.heap.size) 3 Az w' (.slice p l.length c) l/\w'.ownsRow w.heap.size 42 3 (.slice p l.length c) l.length (Al Az l)/\Below w.heap.size w w':=by
 obtain⟨i0,hi0,hz0,hz1,hz2⟩:=info_parts G9;have hv:=h;obtain⟨p,c,rfl,hh⟩:=h;cases p with
 |none=>
  have hn:l=[]:=by
   rcases hh with e|⟨b,o,e,_⟩
   ·exact e
   ·cases e
  subst hn;clear hh hv;have heq:∀ (w:World) (n:Nat),(binOp .eql 22 (.slice none n c) (.slice none 0 0)).run prog w=.ok (.bool true) w:=fun w n=>Go.run_eql_slice_nil w _ _ none n c underlying22;go_enter func16,ntmps16;go_wp2;go_ret;exact⟨none,0,rfl,⟨_,_,rfl,.inl rfl⟩,World.ownsRow_nil _ _ _ _,D0 _⟩
 |some ad=>
  obtain⟨p',c',w',hr,hb,hrow,hown⟩:=I2 dE D7 Ip underlying22 hi0 hz0 hz1 hz2 rfl hv mL oM 22;have HF:Hid (Kr (fun b=>b<w.heap.size) 3 Az w' (.slice p' l.length c') l/\w'.ownsRow w.heap.size 42 3 (.slice p' l.length c') l.length (Al Az l)/\Below w.heap.size w w'):=⟨hrow,hown,hb⟩
  obtain⟨n,hn⟩:∃n,l.length=n:=⟨_,rfl⟩
  rw[hn]at hr HF ⊢;clear hh hv hb hrow hown hn;have heq:∀ (w:World),(binOp .eql 22 (.slice (some ad) n c) (.slice none 0 0)).run prog w=.ok (.bool false) w:=fun w=>Go.run_eql_slice_nil w _ _ (some ad) n c underlying22;go_enter func16,ntmps16;go_wp2_with(at_builtin;refine B2 rfl _ _ 22 rfl _ _ _ rfl rfl hr ?_);go_ret;exact⟨p',c',rfl,HF.out⟩
section
variable {c c' : Cd} {K U W : Nat -> Bool} {F : Ab -> Ab} {rho sig : Nat -> Nat} {G P : List (List Int)} {f f' : Fr}
theorem Jl{j:Nat}(hj:j<c.list.length):Ai (c.list.take (j+1))=if c.list[j].op=34\/c.list[j].op=36 then j::Ai (c.list.take j)else if c.list[j].op=35\/c.list[j].op=37 then(Ai (c.list.take j)).tail else Ai (c.list.take j):=by
 exact MY
end
theorem DJ{c:Cd}(h:(Aj c).1=0):Good c/\An c ⟨[],[]⟩ c.list=true:=by
 obtain⟨h1,h2,_⟩:=Ax.1 h;refine⟨?_,h2⟩;unfold BL at h1;by_cases e1:BV c.sign=0
 ·rw[if_neg (by simp[e1])]at h1;by_cases e2:16384<c.regs.length\/32768<c.list.length
  ·rw[if_pos e2]at h1;cases h1
  ·rw[if_neg e2]at h1;by_cases e3:4096<c.slots.length
   ·rw[if_pos e3]at h1;cases h1
   ·rw[if_neg e3]at h1;by_cases e4:(B0 c&&C0 c)=true
    ·simp only[Bool.and_eq_true]at e4;have e5:¬c.sign.length>64/\c.sign.all Bm=true:=by
      unfold BV at e1;by_cases q1:c.sign.length>64
      ·rw[if_pos q1]at e1;cases e1
      ·rw[if_neg q1]at e1;refine⟨q1,?_⟩;cases q2:c.sign.all Bm with
       |true=>rfl
       |false=>rw[if_pos q2]at e1;cases e1
     have hm:∀p∈c.sign,Bm p=true:=List.all_eq_true.1 e5.2;refine⟨fun p hp=>?_,hm,List.all_eq_true.1 e4.1,List.all_eq_true.1 e4.2,oM,oM,oM,oM⟩;have:=hm p hp;unfold Bm at this;simp only[Bool.and_eq_true,decide_eq_true_eq]at this;omega
    ·rw[if_neg e4]at h1;cases h1
 ·rw[if_pos e1]at h1;exact absurd h1 e1
inductive Nd(l:List Ab):Nat->Prop where
 |out {k:Nat} (hk:k<l.length) (h:l[k].op=31):Nd l k
 |set {k j:Nat} (hk:k<l.length) (hj:j<l.length) (n:Nd l k) (r:Int) (hr:r∈A8 l[k] (A4 l[k].op)) (hs:Aa l[j]=true) (e:l[j].d.toNat=r.toNat):Nd l j
 |store {k j:Nat} (hk:k<l.length) (hj:j<l.length) (n:Nd l k) (h1:l[k].op=32) (h2:l[j].op=33) (e:l[j].n=l[k].n):Nd l j
 |beg {k b:Nat} (hk:k<l.length) (n:Nd l k) (hb:b∈(if l[k].op=35\/l[k].op=37 then(Ai (l.take k)).tail else Ai (l.take k))):Nd l b
 |fin {k b:Nat} (hk:k<l.length) (n:Nd l b) (hf:l[k].op=35\/l[k].op=37) (hb:(Ai (l.take k)).head?=some b):Nd l k
 |begE {k b:Nat} (hk:k<l.length) (n:Nd l k) (hf:l[k].op=35\/l[k].op=37) (hb:(Ai (l.take k)).head?=some b):Nd l b
theorem Bq(l:List Ab):∀k,k<=l.length->∀b∈Ai (l.take k),∃hb:b<l.length,b<k/\(l[b].op=34\/l[b].op=36):=by
 intro k;induction k with
 |zero=>intro _ b hb;cases hb
 |succ k ih=>
  intro hk b hb;have hkl:k<l.length:=oM;rw[List.take_succ_eq_append_getElem hkl,CN,show(l.take k).length=k by rw[List.length_take];omega]at hb;have old:∀b∈Ai (l.take k),∃hb:b<l.length,b<k+1/\(l[b].op=34\/l[b].op=36):=fun b hb=>by
   obtain⟨h1,h2,h3⟩:=ih oM b hb;exact⟨h1,oM,h3⟩
  by_cases h1:l[k].op=34\/l[k].op=36
  ·rw[if_pos h1]at hb;rcases List.mem_cons.1 hb with e|e
   ·subst e;exact⟨hkl,oM,h1⟩
   ·exact old b e
  ·rw[if_neg h1]at hb;split at hb
   ·exact old b (List.mem_of_mem_tail hb)
   ·exact old b hb
theorem Gz{i:Ab}(h:i.op=34\/i.op=36):Aa i=false/\i.op≠32/\i.op≠33:=by
 refine⟨?_,oM,oM⟩;unfold Aa;rcases h with e|e<;>(rw[e];decide)
theorem C6{l:List Ab}{k b:Nat}(hk:k<l.length)(hb:b∈(if l[k].op=35\/l[k].op=37 then(Ai (l.take k)).tail else Ai (l.take k))):b∈Ai (l.take k):=by
 split at hb
 ·exact List.mem_of_mem_tail hb
 ·exact hb
theorem Nd.setter{l:List Ab}{j:Nat}(h:Nd l j)(hj:j<l.length)(hs:Aa l[j]=true):∀k (hk:k<l.length),Aa l[k]=true->l[k].d.toNat=l[j].d.toNat->Nd l k:=by
 cases h with
 |out hk o=>unfold Aa at hs;rw[o]at hs;exact absurd hs dE
 |set hk0 hj0 n r hr _ e=>exact fun k hk hsk ek=>.set hk0 hk n r hr hsk (ek.trans e)
 |store _ _ _ _ o _=>unfold Aa at hs;rw[o]at hs;exact absurd hs dE
 |beg hk n hb=>
  obtain⟨h1,-,h3⟩:=Bq l _ oM j (C6 hk hb);rw[(Gz h3).1]at hs;cases hs
 |fin hk n hf hb=>unfold Aa at hs;rcases hf with e|e<;>(rw[e]at hs;exact absurd hs dE)
 |begE hk n hf hb=>
  obtain⟨h1,-,h3⟩:=Bq l _ oM j (List.mem_of_mem_head? hb);rw[(Gz h3).1]at hs;cases hs
theorem Nd.stored{l:List Ab}{j:Nat}(h:Nd l j)(hj:j<l.length)(o:l[j].op=33):∃k,∃hk:k<l.length,Nd l k/\l[k].op=32/\l[j].n=l[k].n:=by
 cases h with
 |out hk o'=>omega
 |set _ _ _ _ _ hs _=>unfold Aa at hs;rw[o]at hs;exact absurd hs dE
 |store hk _ n o1 _ e=>exact⟨_,hk,n,o1,e⟩
 |beg hk n hb=>
  obtain⟨h1,-,h3⟩:=Bq l _ oM j (C6 hk hb);omega
 |fin hk n hf hb=>omega
 |begE hk n hf hb=>
  obtain⟨h1,-,h3⟩:=Bq l _ oM j (List.mem_of_mem_head? hb);omega
noncomputable def ndK (l:List Ab) (k:Nat):Bool:=@decide (Nd l k) (Classical.propDecidable _)
theorem Ao{l:List Ab}{k:Nat}:ndK l k=true↔Nd l k:=by unfold ndK;simp
theorem DK{l:List Ab}{k:Nat}:ndK l k=false↔¬Nd l k:=by unfold ndK;simp
def Mr(l:List Ab)(r:Nat):Prop:=∃k,∃hk:k<l.length,Nd l k/\Aa l[k]=true/\l[k].d.toNat=r
def Ms(l:List Ab)(n:Nat):Prop:=∃k,∃hk:k<l.length,Nd l k/\(l[k].op=32\/l[k].op=33)/\l[k].n.toNat=n
noncomputable def usR (l:List Ab) (r:Nat):Bool:=@decide (Mr l r) (Classical.propDecidable _)
noncomputable def usS (l:List Ab) (r:Nat):Bool:=@decide (Ms l r) (Classical.propDecidable _)
theorem AW{l:List Ab}{r:Nat}:usR l r=true↔Mr l r:=by unfold usR;simp
theorem BJ{l:List Ab}{r:Nat}:usS l r=true↔Ms l r:=by unfold usS;simp
def Ad(p:Nat->Bool)(r:Nat):Nat:=((List.range r).filter p).length
def Aq{α:Type}(p:Nat->Bool)(l:List α):List α:=((List.range l.length).filter p).filterMap fun r=>l[r]?
theorem CU(p:Nat->Bool):∀n r,r<n->p r=true->((List.range n).filter p)[Ad p r]? =some r:=by
 intro n;induction n with
 |zero=>intro r h;omega
 |succ n ih=>
  intro r hr hp;rw[List.range_succ,List.filter_append];by_cases e:r=n
  ·subst e;unfold Ad;rw[List.getElem?_append_right (Nat.le_refl _)];simp[hp]
  ·have h:=ih r oM hp;rw[List.getElem?_append_left]
   ·exact h
   ·exact(List.getElem?_eq_some_iff.1 h).1
theorem GA{p:Nat->Bool}{r s:Nat}(hr:p r=true)(hs:p s=true)(e:Ad p r=Ad p s):r=s:=by
 have h1:=CU p (r+s+1) r oM hr;have h2:=CU p (r+s+1) s oM hs;rw[e,h2]at h1;simpa using h1.symm
theorem E8{α:Type}{l:List α}:∀ (m:List Nat),(∀r∈m,r<l.length)->(m.filterMap fun r=>l[r]?).length=m.length/\∀t:Nat,(m.filterMap fun r=>l[r]?)[t]? =(m[t]?).bind fun(r:Nat)=>l[r]?
 |[],_=>⟨rfl,fun t=>by simp⟩
 |a::m,h=>by
  obtain⟨h1,h2⟩:=E8 m (fun r hr=>h r (by simp[hr]));rw[List.filterMap_cons,List.getElem?_eq_getElem (h a sM)];refine⟨by simp[h1],fun t=>?_⟩;cases t with
  |zero=>simp[h a sM]
  |succ t=>simpa using h2 t
theorem Ft{α:Type}(p:Nat->Bool)(l:List α):∀r∈(List.range l.length).filter p,r<l.length:=fun r hr=>by have:=(List.mem_filter.1 hr).1;simpa using this
theorem Cx{α:Type}(p:Nat->Bool)(l:List α):(Aq p l).length=((List.range l.length).filter p).length:=(E8 _ (Ft p l)).1
theorem EY{α:Type}{p:Nat->Bool}{l:List α}{r:Nat}(hr:r<l.length)(hp:p r=true):(Aq p l)[Ad p r]? =l[r]? :=by
 have h:=CU p l.length r hr hp;have h2:=(E8 _ (Ft p l)).2 (Ad p r);rw[h]at h2;exact h2
theorem D8{α:Type}(p:Nat->Bool)(l:List α):(Aq p l).length<=l.length:=by
 rw[Cx];have:=List.length_filter_le p (List.range l.length);simpa using this
theorem E9{α:Type}{p:Nat->Bool}{l:List α}{x:α}(h:x∈Aq p l):x∈l:=by
 unfold Aq at h;obtain⟨r,-,hr⟩:=List.mem_filterMap.1 h;exact List.mem_of_getElem? hr
def B8(rho sig:Nat->Nat)(i:Ab):Ab:=
 {i with d:=if(A4 i.op).d=0 then i.d else((rho i.d.toNat:Nat):Int),a:=if(A4 i.op).a=0 then i.a else((rho i.a.toNat:Nat):Int),b:=if(A4 i.op).b=0 then i.b else((rho i.b.toNat:Nat):Int),c:=if(A4 i.op).c=0 then i.c else((rho i.c.toNat:Nat):Int),n:=if i.op=32\/i.op=33 then((sig i.n.toNat:Nat):Int)else i.n}
noncomputable def pruneC (c:Cd):Cd:=⟨c.sign,Aq (usR c.list) c.regs,Aq (usS c.list) c.slots,Ap (ndK c.list) (B8 (Ad (usR c.list)) (Ad (usS c.list))) c.list c.list.length⟩
theorem Ja:∀n:Nat,n<38->1<=n->(A4 (n:Int)).d=0->(A4 (n:Int)).a=0->35<=n:=dE
theorem KX:∀n:Nat,n<38->((A4 (n:Int)).a=0->(A4 (n:Int)).b=0/\(A4 (n:Int)).c=0)/\((A4 (n:Int)).n=10->n=32\/n=33):=dE
theorem BZ{op:Int}(h:Au op=true):∃n:Nat,op=(n:Int)/\1<=n/\n<38:=by
 unfold Au at h;simp only[Bool.and_eq_true,decide_eq_true_eq]at h;exact⟨op.toNat,oM,oM,oM⟩
section
variable {c : Cd}
theorem Hq(h:An c ⟨[],[]⟩ c.list=true){k:Nat}(hk:k<c.list.length){r:Int}(hr:r∈A8 c.list[k] (A4 c.list[k].op)):∃j,∃hj:j<c.list.length,Aa c.list[j]=true/\c.list[j].d.toNat=r.toNat:=by
 obtain⟨-,-,-,t4⟩:=Ar (AV h hk);unfold Ed at t4;rw[List.all_eq_true]at t4;have h4:r.toNat∈(Bn ⟨[],[]⟩ (c.list.take k)).set:=by simpa using t4 r hr
 rcases GU _ _ _ h4 with e|⟨i,hi,h1,h2⟩
 ·cases e
 ·obtain⟨j,hj,rfl⟩:=List.mem_iff_getElem.1 (List.mem_of_mem_take hi);exact⟨j,hj,h1,h2⟩
theorem CO(h:An c ⟨[],[]⟩ c.list=true){k:Nat}(hk:k<c.list.length)(n:Nd c.list k){r:Int}(hr:r∈A8 c.list[k] (A4 c.list[k].op)):usR c.list r.toNat=true:=by
 obtain⟨j,hj,h1,h2⟩:=Hq h hk hr;exact AW.2 ⟨j,hj,.set hk hj n r hr h1 h2,h1,h2⟩
theorem Kg(h:An c ⟨[],[]⟩ c.list=true){r:Nat}(hr:usR c.list r=true):r<c.regs.length:=by
 obtain⟨k,hk,-,hs,e⟩:=AW.1 hr;have:=Gt (AV h hk) hs;omega
theorem F0(h:An c ⟨[],[]⟩ c.list=true){r:Nat}(hr:usR c.list r=true):Ad (usR c.list) r<(Aq (usR c.list) c.regs).length/\Dr (Aq (usR c.list) c.regs) ((Ad (usR c.list) r:Nat):Int)=Dr c.regs (r:Int):=by
 have hl:=Kg h hr;have hp:=EY (l:=c.regs) hl hr;rw[List.getElem?_eq_getElem hl]at hp;obtain⟨h1,h2⟩:=List.getElem?_eq_some_iff.1 hp;refine⟨h1,?_⟩;unfold Dr;rw[if_pos (Bv.2 ⟨oM,oM⟩),if_pos (Bv.2 ⟨oM,oM⟩),Int.toNat_natCast,Int.toNat_natCast,hp,List.getElem?_eq_getElem hl]
theorem FD{n:Nat}(hn:n<c.slots.length)(hw:usS c.list n=true):Ad (usS c.list) n<(Aq (usS c.list) c.slots).length/\(Aq (usS c.list) c.slots)[Ad (usS c.list) n]? =c.slots[n]? :=by
 have hp:=EY (l:=c.slots) hn hw;refine⟨?_,hp⟩;rw[List.getElem?_eq_getElem hn]at hp;exact(List.getElem?_eq_some_iff.1 hp).1
theorem FC(h:An c ⟨[],[]⟩ c.list=true){k:Nat}(hk:k<c.list.length)(n:Nd c.list k)(ho:c.list[k].op<35):At (pruneC c).regs (B8 (Ad (usR c.list)) (Ad (usS c.list)) c.list[k]) (A4 c.list[k].op)=At c.regs c.list[k] (A4 c.list[k].op):=by
 have t:=AV h hk;obtain⟨t1,t2,-,-⟩:=Ar t;unfold At Fj B8 pruneC;simp only;by_cases hd:(A4 c.list[k].op).d=0
 ·rw[if_pos hd,if_pos hd];by_cases ha:(A4 c.list[k].op).a=0
  ·exfalso;obtain⟨m,e,m1,m2⟩:=BZ t1;rw[e]at hd ha ho;have:=Ja m m2 m1 hd ha;omega
  ·rw[if_neg ha];have h0:=(Ag (C3 t2) ha).1;rw[(F0 h (CO h hk n (r:=c.list[k].a) (by unfold A8;rw[if_neg ha];simp))).2,Int.toNat_of_nonneg h0]
 ·rw[if_neg hd,if_neg hd,if_neg hd];have hs:Aa c.list[k]=true:=by unfold Aa;simpa using hd
  have h0:=(Gt t hs).1;rw[(F0 h (AW.2 ⟨k,hk,n,hs,rfl⟩)).2,Int.toNat_of_nonneg h0]
theorem ID(h:An c ⟨[],[]⟩ c.list=true){k:Nat}(hk:k<c.list.length)(n:Nd c.list k)(hf:AR c c.list[k] (A4 c.list[k].op)=true):AR (pruneC c) (B8 (Ad (usR c.list)) (Ad (usS c.list)) c.list[k]) (A4 c.list[k].op)=true:=by
 have t:=AV h hk;obtain⟨t1,-,-,-⟩:=Ar t;obtain⟨m,em,m1,m2⟩:=BZ t1;have reg:∀ (l x:Int) (M M':Ty),Am c.regs l x M=true->(l≠0->usR c.list x.toNat=true)->(c.list[k].op<35->M'=M)->(35<=c.list[k].op->l=0)->Am (Aq (usR c.list) c.regs) l (if l=0 then x else((Ad (usR c.list) x.toNat:Nat):Int)) M'=true:=fun l x M M' hx hu hM h0=>by
  by_cases hl:l=0
  ·rw[if_pos hl];unfold Am at hx ⊢;rw[if_pos hl]at hx ⊢;exact hx
  ·rw[if_neg hl];have ho:c.list[k].op<35:=by
    by_cases q:c.list[k].op<35
    ·exact q
    ·exact absurd (h0 oM) hl
   obtain⟨x0,x1⟩:=Ag hx hl;obtain⟨r1,r2⟩:=F0 h (hu hl);unfold Am at hx ⊢;rw[if_neg hl]at hx ⊢;simp only[Bool.and_eq_true]at hx ⊢;rw[r2,Int.toNat_of_nonneg x0,hM ho];exact⟨Bv.2 ⟨oM,oM⟩,hx.2⟩
 have hmain:=FC h hk n;have h35:35<=c.list[k].op->(A4 c.list[k].op).d=0/\(A4 c.list[k].op).a=0/\(A4 c.list[k].op).b=0/\(A4 c.list[k].op).c=0/\(A4 c.list[k].op).n≠9/\(A4 c.list[k].op).n≠10:=fun q=>by
  rcases(show c.list[k].op=35\/c.list[k].op=36\/c.list[k].op=37 by omega)with e|e|e<;>(rw[e];decide)
 have hrd:∀x,x∈A8 c.list[k] (A4 c.list[k].op)->usR c.list x.toNat=true:=fun x hx=>CO h hk n hx;have hfa:=C3 hf;have hfb:=CG hf;have hfc:=CH hf;have hfd:=C4 hf;unfold AR at hf ⊢;simp only[Bool.and_eq_true]at hf ⊢;refine⟨reg _ _ _ _ hfd (fun q=>AW.2 ⟨k,hk,n,by unfold Aa;simpa using q,rfl⟩) (fun o=>hmain o) (fun q=>(h35 q).1),reg _ _ _ _ hfa (fun q=>hrd _ Mb) (fun o=>hmain o) (fun q=>(h35 q).2.1),reg _ _ _ _ hfb (fun q=>hrd _ Mb) (fun o=>hmain o) (fun q=>(h35 q).2.2.1),reg _ _ _ _ hfc (fun q=>hrd _ Mb) (fun o=>hmain o) (fun q=>(h35 q).2.2.2.1),?_⟩;have hr:=hf.2.2.2.2;unfold Bt at hr ⊢;have hn10:(A4 c.list[k].op).n=10->c.list[k].op=32\/c.list[k].op=33:=fun q=>by
  rw[em]at q ⊢;have:=(KX m m2).2 q;omega
 have hnn:(A4 c.list[k].op).n≠10->(B8 (Ad (usR c.list)) (Ad (usS c.list)) c.list[k]).n=c.list[k].n:=fun q=>by
  unfold B8;simp only;rw[if_neg (fun w=>q (by rcases w with w|w<;>(rw[w];decide)))]
 by_cases h7:(A4 c.list[k].op).n=7
 ·rw[if_pos h7]at hr ⊢;rw[hnn oM];exact hr
 ·rw[if_neg h7]at hr ⊢;simp only[Bool.and_eq_true]at hr ⊢;refine⟨hr.1,?_⟩;have h2:=hr.2;unfold DU at h2 ⊢;by_cases h8:(A4 c.list[k].op).n=8
  ·rw[if_pos h8]at h2 ⊢;rw[hnn oM];exact h2
  ·rw[if_neg h8]at h2 ⊢;by_cases h9:(A4 c.list[k].op).n=9
   ·rw[if_pos h9]at h2 ⊢;have ho:c.list[k].op<35:=by
     by_cases q:c.list[k].op<35
     ·exact q
     ·exact absurd h9 (h35 oM).2.2.2.2.1
    rw[hnn oM,hmain ho];exact h2
   ·rw[if_neg h9]at h2 ⊢;by_cases h10:(A4 c.list[k].op).n=10
    ·rw[if_pos h10]at h2 ⊢;have ho:c.list[k].op<35:=by rcases hn10 h10 with q|q<;>omega
     obtain⟨n0,n1⟩:=Dg t (hn10 h10);have hw:usS c.list c.list[k].n.toNat=true:=BJ.2 ⟨k,hk,n,hn10 h10,rfl⟩;obtain⟨s1,s2⟩:=FD (c:=c) (n:=c.list[k].n.toNat) oM hw;have en:(B8 (Ad (usR c.list)) (Ad (usS c.list)) c.list[k]).n=((Ad (usS c.list) c.list[k].n.toNat:Nat):Int):=by unfold B8;simp only;rw[if_pos (hn10 h10)]
     rw[en,hmain ho];simp only[Bool.and_eq_true]at h2 ⊢;refine⟨Bv.2 ⟨oM,by show _<((Aq (usS c.list) c.slots).length:Int);omega⟩,?_⟩;have e2:Eg (pruneC c).slots ((Ad (usS c.list) c.list[k].n.toNat:Nat):Int)=Eg c.slots c.list[k].n:=by
      unfold Eg;rw[Int.toNat_natCast];show(((Aq (usS c.list) c.slots)[_]?).map _).getD _=_;rw[s2]
     rw[e2];exact h2.2
    ·rw[if_neg h10]at h2 ⊢;rw[hnn h10];exact h2
theorem CL(h:An c ⟨[],[]⟩ c.list=true):Lt c (pruneC c) (ndK c.list) (usR c.list) (B8 (Ad (usR c.list)) (Ad (usS c.list))) (Ad (usR c.list)):=by
 refine⟨fun k hk hs=>?_,fun k hk hK r hr _=>CO h hk (Ao.1 hK) hr,fun k hk hK b hb=>Ao.2 (.beg hk (Ao.1 hK) hb),fun k hk hf b hb=>?_,fun r s hr hs e=>GA hr hs e,fun i=>rfl,fun i o=>?_,fun k hk hK hf=>ID h hk (Ao.1 hK) hf,fun k hk hK ho hf=>FC h hk (Ao.1 hK) ho,fun i=>?_,fun i hs=>?_⟩
 ·by_cases q:Nd c.list k
  ·rw[Ao.2 q];exact AW.2 ⟨k,hk,q,hs,rfl⟩
  ·rw[DK.2 q];cases hu:usR c.list c.list[k].d.toNat with
   |false=>rfl
   |true=>
    obtain⟨j,hj,hn,hsj,e⟩:=AW.1 hu;exact absurd (hn.setter hj hsj k hk hs e.symm) q
 ·by_cases q:Nd c.list k
  ·rw[Ao.2 q,Ao.2 (.begE hk q hf hb)]
  ·rw[DK.2 q,DK.2 (fun w=>q (.fin hk w hf hb))]
 ·unfold B8;simp only;rw[if_neg oM]
 ·unfold A8 B8;simp only[List.map_append];congr 1
  ·split<;>simp_all
  ·congr 1<;>(split<;>simp_all)
 ·unfold B8;simp only;have hd:(A4 i.op).d≠0:=by unfold Aa at hs;simpa using hs
  rw[if_neg hd,Int.toNat_natCast]
theorem Gm(h:An c ⟨[],[]⟩ c.list=true):LP c (pruneC c) (ndK c.list) (usR c.list) (usS c.list) (B8 (Ad (usR c.list)) (Ad (usS c.list))) (Ad (usR c.list)) (Ad (usS c.list)):=by
 refine⟨rfl,fun r hr=>(F0 h hr).2,fun i q=>?_,fun i q=>?_,fun i q=>?_,fun i q=>?_,fun i q1 q2=>?_,fun i q=>?_,fun i=>rfl,fun k hk o=>Ao.2 (.out hk o),fun k hk hK o=>BJ.2 ⟨k,hk,Ao.1 hK,o,rfl⟩,fun k hk hK o=>?_,fun m n hm hn e=>GA hm hn e,fun n hn hl=>(FD hl hn).1⟩
 ·unfold B8;simp only;rw[if_neg q]
 ·unfold B8;simp only;rw[if_neg q]
 ·unfold B8;simp only;rw[if_neg q]
 ·unfold B8;simp only;rw[if_neg q]
 ·unfold B8;simp only;rw[if_neg oM]
 ·unfold B8;simp only;rw[if_pos q]
 ·cases hu:usS c.list c.list[k].n.toNat with
  |false=>rfl
  |true=>
   exfalso;obtain⟨j,hj,hn,oj,e⟩:=BJ.1 hu;have nk:=Dg (AV h hk) (.inr o);have nj:=Dg (AV h hj) oj;have ee:c.list[k].n=c.list[j].n:=oM;refine DK.1 hK ?_;rcases oj with q|q
   ·exact .store hj hk hn q o ee
   ·obtain⟨m,hm,n1,o1,e1⟩:=hn.stored hj q;exact .store hm hk n1 o1 o (ee.trans e1)
theorem Eb(hc:(Aj c).1=0):(Aj (pruneC c)).1=0:=by
 obtain⟨h1,h2,h3⟩:=Ax.1 hc;obtain⟨hg,-⟩:=DJ hc;obtain⟨w1,w2⟩:=Fy (CL h2) h2 c.list.length (Nat.le_refl _);refine Ax.2 ⟨?_,w1,?_⟩
 ·have hl:(pruneC c).list.length<=c.list.length:=Cz _ _ _ _;have hr:(pruneC c).regs.length<=c.regs.length:=D8 _ _;have hs:(pruneC c).slots.length<=c.slots.length:=D8 _ _;have g1:=hg.regsL;have g2:=hg.listL;have g3:=hg.slotsL;have e0:BV c.sign=0:=by
   unfold BL at h1;by_cases q:BV c.sign=0
   ·exact q
   ·rw[if_pos q]at h1;exact absurd h1 q
  unfold BL;rw[if_neg (show¬BV (pruneC c).sign≠0 from fun q=>q e0),if_neg oM,if_neg oM,if_pos];simp only[Bool.and_eq_true];refine⟨?_,?_⟩
  ·unfold B0;rw[List.all_eq_true];exact fun t ht=>hg.regs t (E9 ht)
  ·unfold C0;rw[List.all_eq_true];exact fun s hs'=>hg.slots s (E9 hs')
 ·have ho:=w2.opens;rw[List.take_length]at ho;have hl:=ho.len;rw[List.isEmpty_iff]at h3;rw[h3]at ho hl;have e:Ai c.list=[]:=List.eq_nil_of_length_eq_zero hl;rw[e]at ho;show(Bn ⟨[],[]⟩ (Ap _ _ c.list c.list.length)).opens.isEmpty=true;rw[List.isEmpty_iff];revert ho;generalize (Bn ⟨[],[]⟩ (Ap (ndK c.list) (B8 (Ad (usR c.list)) (Ad (usS c.list))) c.list c.list.length)).opens=o';intro ho;cases ho
  rfl
end

def B7(l:List Ab)(b k:Nat):Prop:=∃hk:k<l.length,(l[k].op=35\/l[k].op=37)/\(Ai (l.take k)).head?=some b
def FM(l:List Ab)(k:Nat):List Nat:=if(l[k]?.map fun i=>decide (i.op=35\/i.op=37))=some true then(Ai (l.take k)).tail else Ai (l.take k)
theorem C2{l:List Ab}{k:Nat}(hk:k<l.length):FM l k=if l[k].op=35\/l[k].op=37 then(Ai (l.take k)).tail else Ai (l.take k):=by
 unfold FM;rw[List.getElem?_eq_getElem hk];simp
theorem Dv{l:List Ab}{j:Nat}(hj:j<l.length):Ai (l.take (j+1))=if l[j].op=34\/l[j].op=36 then j::Ai (l.take j)else if l[j].op=35\/l[j].op=37 then(Ai (l.take j)).tail else Ai (l.take j):=by
 rw[List.take_succ_eq_append_getElem hj,CN,show(l.take j).length=j by rw[List.length_take];omega]
theorem CE{l:List Ab}:∀k,k<=l.length->∀b S,Ai (l.take k)=b::S->b<k/\Ai (l.take b)=S:=by
 intro k;induction k using Nat.strongRecOn with
 |ind k ih=>
  intro hk b S hs;cases k with
  |zero=>cases hs
  |succ k=>
   have hkl:k<l.length:=oM;rw[Dv hkl]at hs;by_cases h1:l[k].op=34\/l[k].op=36
   ·rw[if_pos h1]at hs;simp only[List.cons.injEq]at hs;obtain⟨rfl,rfl⟩:=hs;exact⟨oM,rfl⟩
   ·rw[if_neg h1]at hs;by_cases h2:l[k].op=35\/l[k].op=37
    ·rw[if_pos h2]at hs;cases hq:Ai (l.take k)with
     |nil=>rw[hq]at hs;cases hs
     |cons b0 S0=>
      rw[hq]at hs;simp only[List.tail_cons]at hs;subst hs;obtain⟨g1,g2⟩:=ih k oM oM b0 _ hq;obtain⟨g3,g4⟩:=ih b0 oM oM b S g2;exact⟨oM,g4⟩
    ·rw[if_neg h2]at hs;obtain⟨g1,g2⟩:=ih k oM oM b S hs;exact⟨oM,g2⟩
theorem Jk{l:List Ab}{k:Nat}(hk:k<=l.length){b:Nat}(hb:b∈Ai (l.take k)):b<k:=by
 obtain⟨-,h,-⟩:=Bq l k hk b hb;exact h
theorem Jm{l:List Ab}{k:Nat}(hk:k<=l.length){b:Nat}{S:List Nat}(hs:Ai (l.take k)=b::S):b∉S:=fun hm=>by
 obtain⟨g1,g2⟩:=CE k hk b S hs;have:=Jk (l:=l) (k:=b) oM (by rw[g2];exact hm);omega
theorem Dk{l:List Ab}{b k1 k2:Nat}(h1:B7 l b k1)(h2:B7 l b k2):k1=k2:=by
 have Cj:∀ {k1 k2:Nat},B7 l b k1->B7 l b k2->¬k1<k2:=fun{k1 k2} h1 h2 hlt=>by
  obtain⟨hk1,f1,e1⟩:=h1;obtain⟨hk2,f2,e2⟩:=h2;have hb1:b<k1:=Jk (Nat.le_of_lt hk1) (List.mem_of_mem_head? e1);have gone:∀m,k1+1<=m->m<=l.length->b∉Ai (l.take m):=by
   intro m;induction m with
   |zero=>intro h;omega
   |succ m ih=>
    intro hm hml;have hmm:m<l.length:=oM;rw[Dv hmm];by_cases e:m=k1
    ·subst e;rw[if_neg oM,if_pos f1];cases hs:Ai (l.take m)with
     |nil=>simp
     |cons b0 S=>
      rw[hs]at e1;simp only[List.head?_cons,Option.some.injEq]at e1;subst e1;exact Jm (Nat.le_of_lt hmm) hs
    ·have h:=ih oM oM;split
     ·intro q;rcases List.mem_cons.1 q with w|w
      ·omega
      ·exact h w
     ·split
      ·exact fun q=>h (List.mem_of_mem_tail q)
      ·exact h
  exact gone k2 oM oM (List.mem_of_mem_head? e2)
 have a:=Cj h1 h2;have b':=Cj h2 h1;omega
structure Sr where
 nd:Nat->Bool
 todo:List Nat
 sr:Nat->Bool
 ss:Nat->Bool
def need1(q:Sr)(p:Nat):Sr:=if q.nd p=true then q else{q with nd:=fun x=>if x=p then true else q.nd x,todo:=q.todo++[p]}
def needL(q:Sr)(ps:List Nat):Sr:=ps.foldl need1 q
def Ev(l:List Ab)(q:Sr)(p:Nat):Prop:=∀hp:p<l.length,(∀r∈A8 l[p] (A4 l[p].op),q.sr r.toNat=true)/\(l[p].op=32->q.ss l[p].n.toNat=true)/\∀b,(FM l p).head?=some b->q.nd b=true
structure SI(l:List Ab)(q:Sr)(X:List Nat):Prop where
 snd:∀p,q.nd p=true->p<l.length/\Nd l p
 tod:∀p∈q.todo,q.nd p=true
 don:∀p,q.nd p=true->p∉q.todo->p∉X->Ev l q p
 sr:∀r,q.sr r=true->∀j (hj:j<l.length),Aa l[j]=true->l[j].d.toNat=r->q.nd j=true
 ss:∀n,q.ss n=true->∀j (hj:j<l.length),l[j].op=33->l[j].n.toNat=n->q.nd j=true
section
variable {l : List Ab} {q : Sr} {X : List Nat}
theorem BO(q:Sr)(p x:Nat):(need1 q p).nd x=true↔q.nd x=true\/x=p:=by
 unfold need1;split
 ·rename_i h;exact⟨.inl,fun w=>w.elim id (fun e=>e▸h)⟩
 ·simp only;by_cases e:x=p
  ·simp[e]
  ·simp[e]
theorem DC(q:Sr)(p:Nat):(need1 q p).sr=q.sr/\(need1 q p).ss=q.ss:=by unfold need1;split<;>exact⟨rfl,rfl⟩
theorem Ev.mono{q q':Sr}{p:Nat}(h:Ev l q p)(h1:∀x,q.nd x=true->q'.nd x=true)(h2:∀x,q.sr x=true->q'.sr x=true)(h3:∀x,q.ss x=true->q'.ss x=true):Ev l q' p:=fun hp=>
 ⟨fun r hr=>h2 _ ((h hp).1 r hr),fun o=>h3 _ ((h hp).2.1 o),fun b hb=>h1 _ ((h hp).2.2 b hb)⟩
theorem SI.need1(h:SI l q X){p:Nat}(hp:p<l.length)(hn:Nd l p):SI l (need1 q p) X:=by
 obtain⟨k1,k2⟩:=DC q p;have up:∀x,q.nd x=true->(Go.Proofs.Ytchbjcldkcfffaa.need1 q p).nd x=true:=fun x hx=>(BO q p x).2 (.inl hx);refine⟨fun x hx=>?_,fun x hx=>?_,fun x hx ht hX=>?_,fun r hr j hj hs e=>up _ (h.sr r (by rw[k1]at hr;exact hr) j hj hs e),fun n hr j hj hs e=>up _ (h.ss n (by rw[k2]at hr;exact hr) j hj hs e)⟩
 ·rcases(BO q p x).1 hx with w|w
  ·exact h.snd x w
  ·rw[w];exact⟨hp,hn⟩
 ·unfold Go.Proofs.Ytchbjcldkcfffaa.need1 at hx;split at hx
  ·exact up x (h.tod x hx)
  ·simp only at hx;rcases List.mem_append.1 hx with w|w
   ·exact up x (h.tod x w)
   ·simp only[List.mem_singleton]at w;exact(BO q p x).2 (.inr w)
 ·have hx0:q.nd x=true/\x∉q.todo:=by
   unfold Go.Proofs.Ytchbjcldkcfffaa.need1 at ht;split at ht
   ·rename_i w;rcases(BO q p x).1 hx with e|e
    ·exact⟨e,ht⟩
    ·exact⟨e▸w,ht⟩
   ·simp only[List.mem_append,List.mem_singleton,not_or]at ht;rcases(BO q p x).1 hx with e|e
    ·exact⟨e,ht.1⟩
    ·exact absurd e ht.2
  exact(h.don x hx0.1 hx0.2 hX).mono up (fun r hr=>by rw[k1];exact hr) (fun r hr=>by rw[k2];exact hr)
theorem D6:∀ (ps:List Nat) {q:Sr},SI l q X->(∀p∈ps,p<l.length/\Nd l p)->SI l (needL q ps) X
 |[],q,h,_=>h
 |p::ps,q,h,hp=>D6 ps (h.need1 (hp p sM).1 (hp p sM).2) (fun x hx=>hp x (by simp[hx]))
theorem Bi:∀ (ps:List Nat) (q:Sr) (x:Nat),(needL q ps).nd x=true↔q.nd x=true\/x∈ps
 |[],q,x=>by simp[needL]
 |p::ps,q,x=>by
  show(needL (need1 q p) ps).nd x=true↔_;rw[Bi ps,BO];simp only[List.mem_cons];constructor
  ·rintro((h|h)|h)
   ·exact .inl h
   ·exact .inr (.inl h)
   ·exact .inr (.inr h)
  ·rintro(h|h|h)
   ·exact .inl (.inl h)
   ·exact .inl (.inr h)
   ·exact .inr h
theorem Be:∀ (ps:List Nat) (q:Sr),(needL q ps).sr=q.sr/\(needL q ps).ss=q.ss
 |[],q=>⟨rfl,rfl⟩
 |p::ps,q=>by
  obtain⟨h1,h2⟩:=Be ps (need1 q p);obtain⟨h3,h4⟩:=DC q p;exact⟨h1.trans h3,h2.trans h4⟩
def BS(l:List Ab)(q:Sr):Prop:=∀b k,B7 l b k->q.nd b=q.nd k
theorem Bx{b k:Nat}(h:B7 l b k):∃hb:b<l.length,∃hk:k<l.length,(l[b].op=34\/l[b].op=36)/\(l[k].op=35\/l[k].op=37):=by
 obtain⟨hk,f,e⟩:=h;obtain⟨hb,-,o⟩:=Bq l k (Nat.le_of_lt hk) b (List.mem_of_mem_head? e);exact⟨hb,hk,o,f⟩
theorem BS.other(h:BS l q){ps:List Nat}(hp:∀p∈ps,∃hp:p<l.length,l[p].op<34):BS l (needL q ps):=fun b k hm=>by
 obtain⟨hb,hk,o1,o2⟩:=Bx hm;have e1:b∉ps:=fun w=>by obtain⟨_,o⟩:=hp b w;omega
 have e2:k∉ps:=fun w=>by obtain⟨_,o⟩:=hp k w;omega
 have e3:=h b k hm;rw[Bool.eq_iff_iff,Bi,Bi];simp only[e1,e2,or_false];rw[e3]
theorem BS.both(h:BS l q){b e:Nat}(hm:B7 l b e):BS l (needL q [b,e]):=fun b' k' hm'=>by
 have e3:=h b' k' hm';rw[Bool.eq_iff_iff,Bi,Bi,e3];simp only[List.mem_cons,List.not_mem_nil,or_false];obtain⟨hb,hk,o1,o2⟩:=Bx hm;obtain⟨hb',hk',o1',o2'⟩:=Bx hm';have n1:b'≠e:=fun w=>by subst w;omega
 have n2:k'≠b:=fun w=>by subst w;omega
 have i1:b'=b↔k'=e:=by
  constructor
  ·intro w;subst w;exact Dk hm' hm
  ·intro w;subst w;obtain⟨_,_,x1⟩:=hm;obtain⟨_,_,x2⟩:=hm';rw[x1]at x2;simpa using x2.symm
 constructor
 ·rintro(w|w|w)
  ·exact .inl w
  ·exact .inr (.inr (i1.1 w))
  ·exact absurd w n1
 ·rintro(w|w|w)
  ·exact .inl w
  ·exact absurd w n2
  ·exact .inr (.inl (i1.2 w))
theorem Gs(h:SI l q [])(ht:q.todo=[])(hpar:BS l q)(ho:∀k (hk:k<l.length),l[k].op=31->q.nd k=true){p:Nat}(n:Nd l p):q.nd p=true:=by
 have dn:∀p,q.nd p=true->Ev l q p:=fun p hp=>h.don p hp (by rw[ht];simp) sM;have anc:∀ (N k:Nat),k<l.length->(FM l k).length<=N->q.nd k=true->∀b∈FM l k,q.nd b=true:=by
  intro N;induction N with
  |zero=>
   intro k hk hl _ b hb;have:FM l k=[]:=List.eq_nil_of_length_eq_zero oM;rw[this]at hb;cases hb
  |succ N ih=>
   intro k hk hl hn b hb;cases hs:FM l k with
   |nil=>rw[hs]at hb;cases hb
   |cons b0 S=>
    have h0:=(dn k hn hk).2.2 b0 L8;rw[hs]at hb;rcases List.mem_cons.1 hb with e|e
    ·rw[e];exact h0
    ·have hmem:b0∈Ai (l.take k)/\Ai (l.take b0)=S:=by
      rw[C2 hk]at hs;split at hs
      ·cases hq:Ai (l.take k)with
       |nil=>rw[hq]at hs;cases hs
       |cons x Y=>
        rw[hq]at hs;simp only[List.tail_cons]at hs;subst hs;obtain⟨g1,g2⟩:=CE k (Nat.le_of_lt hk) x _ hq;exact⟨sM,(CE x oM b0 S g2).2⟩
      ·exact⟨by rw[hs];simp,(CE k (Nat.le_of_lt hk) b0 S hs).2⟩
     obtain⟨hb0,-,o0⟩:=Bq l k (Nat.le_of_lt hk) b0 hmem.1;have e0:FM l b0=S:=by rw[C2 hb0,if_neg oM];exact hmem.2
     exact ih b0 hb0 (by rw[e0];rw[hs]at hl;simpa using hl) h0 b (by rw[e0];exact e)
 induction n with
 |out hk o=>exact ho _ hk o
 |set hk hj n r hr hs e ih=>exact h.sr _ ((dn _ ih hk).1 r hr) _ hj hs e
 |store hk hj n o1 o2 e ih=>exact h.ss _ ((dn _ ih hk).2.1 o1) _ hj o2 (by rw[e])
 |@beg k b hk n hb ih=>exact anc _ k hk (Nat.le_refl _) ih b (by rw[C2 hk];exact hb)
 |@fin k b hk n hf hb ih=>rw[←hpar b k ⟨hk,hf,hb⟩];exact ih
 |@begE k b hk n hf hb ih=>rw[hpar b k ⟨hk,hf,hb⟩];exact ih
theorem Ht(h:SI l q [])(ht:q.todo=[])(hpar:BS l q)(ho:∀k (hk:k<l.length),l[k].op=31->q.nd k=true)(p:Nat):q.nd p=ndK l p:=by
 rw[Bool.eq_iff_iff,Ao];exact⟨fun w=>(h.snd p w).2,fun n=>Gs h ht hpar ho n⟩
end
def BH(c:Array Value)(i:Nat):Value:=(c[i]?).getD (.int .i64 0)
theorem AH(w:World)(c:Array Value)(t:TypeId):(w.alloc (.cells c t)).rowIs w.heap.size t c.size (BH c):=World.rowIs_alloc w c t _ (fun i hi=>by unfold BH;simp[hi])
theorem Fk{l:List Ab}(he:Ai l=[]){b:Nat}:∀m k,m=l.length-k->k<=l.length->b∈Ai (l.take k)->∃e,B7 l b e:=by
 intro m;induction m with
 |zero=>
  intro k hm hk hb;have:k=l.length:=oM;subst this;rw[List.take_length,he]at hb;cases hb
 |succ m ih=>
  intro k hm hk hb;have hkl:k<l.length:=oM;have hn:=Dv hkl;by_cases h1:l[k].op=34\/l[k].op=36
  ·rw[if_pos h1]at hn;exact ih (k+1) oM oM (by rw[hn];simp[hb])
  ·rw[if_neg h1]at hn;by_cases h2:l[k].op=35\/l[k].op=37
   ·rw[if_pos h2]at hn;cases hs:Ai (l.take k)with
    |nil=>rw[hs]at hb;cases hb
    |cons b0 S=>
     rw[hs]at hb hn;rcases List.mem_cons.1 hb with e|e
     ·exact⟨k,hkl,h2,by rw[hs,e];rfl⟩
     ·exact ih (k+1) oM oM (by rw[hn];exact e)
   ·rw[if_neg h2]at hn;exact ih (k+1) oM oM (by rw[hn];exact hb)
def Dd(l:List Ab)(r:Nat):List Nat:=(List.range l.length).filter fun k=>(l[k]?.map fun i=>Aa i&&decide (i.d.toNat=r))==some true
def Dw(l:List Ab)(n:Nat):List Nat:=(List.range l.length).filter fun k=>(l[k]?.map fun i=>decide (i.op=33)&&decide (i.n.toNat=n))==some true
theorem De{l:List Ab}{r k:Nat}:k∈Dd l r↔∃hk:k<l.length,Aa l[k]=true/\l[k].d.toNat=r:=by
 unfold Dd;exact MP
theorem Dh{l:List Ab}{r k:Nat}:k∈Dw l r↔∃hk:k<l.length,l[k].op=33/\l[k].n.toNat=r:=by
 unfold Dw;exact MP
noncomputable def enP (l:List Ab) (b:Nat):Nat:=@dite _ (∃e,B7 l b e) (Classical.propDecidable _) (fun h=>Classical.choose h) (fun _=>0)
theorem FY{l:List Ab}{b e:Nat}(h:B7 l b e):enP l b=e:=by
 have hx:∃e,B7 l b e:=⟨e,h⟩
 unfold enP;rw[dif_pos hx];exact Dk (Classical.choose_spec hx) h
def goR(l:List Ab)(q:Sr)(r:Nat):Sr:={needL q (if q.sr r=true then [] else Dd l r)with sr:=fun x=>if x=r then true else q.sr x}
def goS(l:List Ab)(q:Sr)(n:Nat):Sr:={needL q (if q.ss n=true then [] else Dw l n)with ss:=fun x=>if x=n then true else q.ss x}
noncomputable def goA (l:List Ab) (q:Sr) (p:Nat):Sr:=match (FM l p).head? with
 |some b=>needL q [b,enP l b]
 |none=>q
def BN(l:List Ab)(q:Sr)(rs:List Int):Sr:=rs.foldl (fun q r=>goR l q r.toNat) q
noncomputable def goQ (l:List Ab) (q:Sr) (p:Nat) (i:Ab):Sr:=
 let q1:=BN l q (A8 i (A4 i.op));let q2:=if i.op=32 then goS l q1 i.n.toNat else q1
 goA l q2 p
def B6(l:List Ab)(q:Sr):Nat:=((List.range l.length).filter fun k=> !(q.nd k)).length+q.todo.length
theorem I3(f g:Nat->Bool)(p:Nat)(h1:f p=true)(h2:g p=false)(h3:∀x,x≠p->g x=f x):∀n,p<n->((List.range n).filter g).length+1=((List.range n).filter f).length:=by
 intro n;induction n with
 |zero=>intro h;omega
 |succ n ih=>
  intro hn;rw[List.range_succ,List.filter_append,List.filter_append,List.length_append,List.length_append];by_cases e:n=p
  ·subst e;have:(List.range n).filter g=(List.range n).filter f:=List.filter_congr (fun x hx=>h3 x (by have:=List.mem_range.1 hx;omega));rw[this];simp[h1,h2]
  ·have:=ih oM;simp only[List.filter_cons,List.filter_nil,h3 n e];omega
theorem El{l:List Ab}(q:Sr){p:Nat}(hp:p<l.length):B6 l (need1 q p)=B6 l q:=by
 unfold need1;split
 ·rfl
 ·rename_i h;unfold B6;simp only[List.length_append,List.length_singleton];have:=I3 (fun k=> !(q.nd k)) (fun k=> !(if k=p then true else q.nd k)) p (by simpa using h) sM (fun x hx=>by simp[hx]) l.length hp;omega
theorem Ce{l:List Ab}:∀ (ps:List Nat) (q:Sr),(∀p∈ps,p<l.length)->B6 l (needL q ps)=B6 l q
 |[],q,_=>rfl
 |p::ps,q,h=>(Ce ps (need1 q p) (fun x hx=>h x (by simp[hx]))).trans (El q (h p sM))
section
variable {l : List Ab} {q : Sr} {X : List Nat}
theorem FH{i:Ab}(h:Aa i=true)(hk:Au i.op=true):i.op<34:=by
 obtain⟨n,e,h1,h2⟩:=BZ hk;unfold Aa at h;rw[e]at h ⊢;have Cj:∀n:Nat,n<38->decide ((A4 (n:Int)).d≠0)=true->n<34:=dE;have:=Cj n h2 (by simpa using h);omega
theorem JF(h:SI l q X)(hpar:BS l q)(hK:∀i∈l,Au i.op=true)(r:Nat)(hn:∀j∈Dd l r,Nd l j):SI l (goR l q r) X/\BS l (goR l q r)/\B6 l (goR l q r)=B6 l q/\(∀x,q.nd x=true->(goR l q r).nd x=true)/\(∀x,(goR l q r).sr x=true↔q.sr x=true\/x=r)/\(goR l q r).ss=q.ss:=by
 have hps:∀p∈(if q.sr r=true then [] else Dd l r),p∈Dd l r:=fun p hp=>by split at hp<;>simp_all
 have low:∀p∈(if q.sr r=true then [] else Dd l r),∃hp:p<l.length,l[p].op<34:=fun p hp=>by
  obtain⟨h1,h2,-⟩:=De.1 (hps p hp);exact⟨h1,FH h2 (hK _ (List.getElem_mem h1))⟩
 have h1:=D6 (l:=l) (X:=X) (if q.sr r=true then [] else Dd l r) h (fun p hp=>⟨(low p hp).1,hn p (hps p hp)⟩);obtain⟨k1,k2⟩:=Be (if q.sr r=true then [] else Dd l r) q;have nd':=Bi (if q.sr r=true then [] else Dd l r) q;have up:∀x,q.nd x=true->(goR l q r).nd x=true:=fun x hx=>(nd' x).2 (.inl hx);have sr':∀x,(goR l q r).sr x=true↔q.sr x=true\/x=r:=fun x=>by
  unfold goR;simp only;by_cases e:x=r<;>simp[e]
 refine⟨⟨h1.snd,h1.tod,fun p a b c=>?_,fun x hx j hj hs e=>?_,h1.ss⟩,hpar.other low,?_,up,sr',k2⟩
 ·refine(h1.don p a b c).mono (fun x hx=>hx) (fun x hx=>(sr' x).2 (.inl (by rw[k1]at hx;exact hx))) (fun x hx=>hx)
 ·by_cases hr:q.sr r=true
  ·have:q.sr x=true:=by
    rcases(sr' x).1 hx with w|w
    ·exact w
    ·rw[w];exact hr
   exact up j (h.sr x this j hj hs e)
  ·rcases(sr' x).1 hx with w|w
   ·exact up j (h.sr x w j hj hs e)
   ·refine(nd' j).2 (.inr ?_);rw[if_neg hr,←w];exact De.2 ⟨hj,hs,e⟩
 ·exact Ce (l:=l) _ q (fun p hp=>(low p hp).1)
theorem JG(h:SI l q X)(hpar:BS l q)(r:Nat)(hn:∀j∈Dw l r,Nd l j):SI l (goS l q r) X/\BS l (goS l q r)/\B6 l (goS l q r)=B6 l q/\(∀x,q.nd x=true->(goS l q r).nd x=true)/\(∀x,(goS l q r).ss x=true↔q.ss x=true\/x=r)/\(goS l q r).sr=q.sr:=by
 have hps:∀p∈(if q.ss r=true then [] else Dw l r),p∈Dw l r:=fun p hp=>by split at hp<;>simp_all
 have low:∀p∈(if q.ss r=true then [] else Dw l r),∃hp:p<l.length,l[p].op<34:=fun p hp=>by
  obtain⟨h1,h2,-⟩:=Dh.1 (hps p hp);exact⟨h1,oM⟩
 have h1:=D6 (l:=l) (X:=X) (if q.ss r=true then [] else Dw l r) h (fun p hp=>⟨(low p hp).1,hn p (hps p hp)⟩);obtain⟨k1,k2⟩:=Be (if q.ss r=true then [] else Dw l r) q;have nd':=Bi (if q.ss r=true then [] else Dw l r) q;have up:∀x,q.nd x=true->(goS l q r).nd x=true:=fun x hx=>(nd' x).2 (.inl hx);have ss':∀x,(goS l q r).ss x=true↔q.ss x=true\/x=r:=fun x=>by
  unfold goS;simp only;by_cases e:x=r<;>simp[e]
 refine⟨⟨h1.snd,h1.tod,fun p a b c=>?_,h1.sr,fun x hx j hj hs e=>?_⟩,hpar.other low,?_,up,ss',k1⟩
 ·refine(h1.don p a b c).mono (fun x hx=>hx) (fun x hx=>hx) (fun x hx=>(ss' x).2 (.inl (by rw[k2]at hx;exact hx)))
 ·by_cases hr:q.ss r=true
  ·have:q.ss x=true:=by
    rcases(ss' x).1 hx with w|w
    ·exact w
    ·rw[w];exact hr
   exact up j (h.ss x this j hj hs e)
  ·rcases(ss' x).1 hx with w|w
   ·exact up j (h.ss x w j hj hs e)
   ·refine(nd' j).2 (.inr ?_);rw[if_neg hr,←w];exact Dh.2 ⟨hj,hs,e⟩
 ·exact Ce (l:=l) _ q (fun p hp=>(low p hp).1)
theorem Ff(hK:∀i∈l,Au i.op=true):∀ (rs:List Int) {q:Sr},SI l q X->BS l q->(∀r∈rs,∀j∈Dd l r.toNat,Nd l j)->SI l (BN l q rs) X/\BS l (BN l q rs)/\B6 l (BN l q rs)=B6 l q/\(∀x,q.nd x=true->(BN l q rs).nd x=true)/\(∀x,q.sr x=true->(BN l q rs).sr x=true)/\(∀r∈rs,(BN l q rs).sr r.toNat=true)/\(BN l q rs).ss=q.ss
 |[],q,h,hp,_=>⟨h,hp,rfl,fun x hx=>hx,fun x hx=>hx,sM,rfl⟩
 |r::rs,q,h,hp,hn=>by
  obtain⟨a1,a2,a3,a4,a5,a6⟩:=JF h hp hK r.toNat (hn r sM);obtain⟨b1,b2,b3,b4,b5,b6,b7⟩:=Ff hK rs a1 a2 (fun x hx=>hn x (by simp[hx]));refine⟨b1,b2,b3.trans a3,fun x hx=>b4 x (a4 x hx),fun x hx=>b5 x ((a5 x).2 (.inl hx)),fun x hx=>?_,b7.trans a6⟩;rcases List.mem_cons.1 hx with e|e
  ·rw[e];exact b5 _ ((a5 _).2 (.inr rfl))
  ·exact b6 x e
theorem Gy{p:Nat}(hp:p<l.length){b:Nat}(hb:(FM l p).head?=some b):b∈Ai (l.take p):=by
 have:=List.mem_of_mem_head? hb;rw[C2 hp]at this;exact C6 hp this
theorem JD(he:Ai l=[])(h:SI l q X)(hpar:BS l q){p:Nat}(hp:p<l.length)(np:Nd l p):SI l (goA l q p) X/\BS l (goA l q p)/\B6 l (goA l q p)=B6 l q/\(∀x,q.nd x=true->(goA l q p).nd x=true)/\(goA l q p).sr=q.sr/\(goA l q p).ss=q.ss/\∀b,(FM l p).head?=some b->(goA l q p).nd b=true:=by
 unfold goA;cases hb:(FM l p).head? with
 |none=>exact⟨h,hpar,rfl,fun x hx=>hx,rfl,rfl,sM⟩
 |some b=>
  obtain⟨e,hm⟩:=Fk he (l.length-p) p rfl (Nat.le_of_lt hp) (Gy hp hb);simp only[FY hm];obtain⟨hb',he',-,-⟩:=Bx hm;have nb:Nd l b:=.beg hp np (by rw[←C2 hp];exact List.mem_of_mem_head? hb);have ne:Nd l e:=.fin he' nb hm.2.1 hm.2.2;have all:∀x∈[b,e],x<l.length/\Nd l x:=fun x hx=>by
   simp only[List.mem_cons,List.not_mem_nil,or_false]at hx;rcases hx with w|w<;>subst w
   ·exact⟨hb',nb⟩
   ·exact⟨he',ne⟩
  obtain⟨k1,k2⟩:=Be [b,e] q;refine⟨D6 [b,e] h all,hpar.both hm,Ce _ q (fun x hx=>(all x hx).1),fun x hx=>(Bi [b,e] q x).2 (.inl hx),k1,k2,fun b' hb'=>(Bi [b,e] q b').2 (.inr ?_)⟩;simp only[Option.some.injEq]at hb';simp[hb']
theorem JE(he:Ai l=[])(hK:∀i∈l,Au i.op=true)(hN:∀j k (hj:j<l.length) (hk:k<l.length),l[j].op=33->l[k].op=32->l[j].n.toNat=l[k].n.toNat->l[j].n=l[k].n){t:List Nat}{p:Nat}(h:SI l q [])(hpar:BS l q)(ht:q.todo=t++[p])(hp:p<l.length):
 SI l (goQ l {q with todo:=t} p l[p]) []/\BS l (goQ l {q with todo:=t} p l[p])/\B6 l (goQ l {q with todo:=t} p l[p])+1=B6 l q/\∀x,q.nd x=true->(goQ l {q with todo:=t} p l[p]).nd x=true:=by
 have np:Nd l p:=(h.snd p (h.tod p (by rw[ht];simp))).2;have h0:SI l {q with todo:=t} [p]:=⟨h.snd,fun x hx=>h.tod x (by rw[ht];simp[hx]),fun x a b c=>h.don x a (by rw[ht];simp only[List.mem_append,not_or];exact⟨b,c⟩) sM,h.sr,h.ss⟩
 have p0:BS l {q with todo:=t}:=hpar;have d0:B6 l {q with todo:=t}+1=B6 l q:=by unfold B6;rw[ht];simp only[List.length_append,List.length_singleton];omega
 obtain⟨a1,a2,a3,a4,a5,a6,a7⟩:=Ff hK (A8 l[p] (A4 l[p].op)) h0 p0 (fun r hr j hj=>by
  obtain⟨g1,g2,g3⟩:=De.1 hj
  exact .set hp g1 np r hr g2 g3)
 generalize hq1:BN l {q with todo:=t} (A8 l[p] (A4 l[p].op))=q1 at a1 a2 a3 a4 a5 a6 a7;obtain⟨q2,hq2,b1,b2,b3,b4,b5,b6⟩:∃q2,q2=(if l[p].op=32 then goS l q1 l[p].n.toNat else q1)/\SI l q2 [p]/\BS l q2/\B6 l q2=B6 l q1/\(∀x,q1.nd x=true->q2.nd x=true)/\q2.sr=q1.sr/\(l[p].op=32->q2.ss l[p].n.toNat=true):=by
  refine⟨_,rfl,?_⟩;by_cases o:l[p].op=32
  ·rw[if_pos o];obtain⟨c1,c2,c3,c4,c5,c6⟩:=JG a1 a2 l[p].n.toNat (fun j hj=>by
    obtain⟨g1,g2,g3⟩:=Dh.1 hj
    exact .store hp g1 np o g2 (hN j p g1 hp g2 o g3))
   exact⟨c1,c2,c3,c4,c6,fun _=>(c5 _).2 (.inr rfl)⟩
  ·rw[if_neg o];exact⟨a1,a2,rfl,fun x hx=>hx,rfl,fun w=>absurd w o⟩
 obtain⟨c1,c2,c3,c4,c5,c6,c7⟩:=JD he b1 b2 hp np;have eg:goQ l {q with todo:=t} p l[p]=goA l q2 p:=by
  unfold goQ;simp only[hq1];rw[hq2]
 rw[eg];have hd:Ev l (goA l q2 p) p:=fun _=>⟨fun r hr=>by rw[c5,b5];exact a6 r hr,fun o=>by rw[c6];exact b6 o,c7⟩
 refine⟨⟨c1.snd,c1.tod,fun x a b _=>?_,c1.sr,c1.ss⟩,c2,oM,fun x hx=>c4 x (b4 x (a4 x hx))⟩;by_cases e:x=p
 ·subst e;exact hd
 ·exact c1.don x a b (by simpa using e)
end

def Jt(op d a b c n z:Int)(k:Nat):Value:=BH #[.int .i64 op,.int .i64 d,.int .i64 a,.int .i64 b,.int .i64 c,.int .i64 n,.int .u32 z] k

def KW(l:List Rk):List Value:=l.flatMap Ml
section
variable {E : Nat} {c : Cd} {s : RW} {w w' : World} {B C SB IB MB nm rb ro q1 : Nat} {vk vo vl : Value} {tag : Nat -> Nat}
theorem A9{tag:Nat->Nat}{a b m n:Nat}(ha:tag a=m)(hb:tag b=n)(h:m≠n):a≠b:=fun e=>h (by rw[←ha,←hb,e])
end

section
variable {c : Cd}
theorem EK(h:An c ⟨[],[]⟩ c.list=true){j:Nat}(hj:j<=c.list.length):(Ai (c.list.take j)).length=(Bn ⟨[],[]⟩ (c.list.take j)).opens.length:=
 ((Fy (CL h) h j hj).2.opens).len
theorem GW(hc:(Aj c).1=0):Ai c.list=[]:=by
 obtain⟨h1,h2,h3⟩:=Ax.1 hc;have h:=EK h2 (Nat.le_refl _);rw[List.take_length]at h;rw[List.isEmpty_iff]at h3;rw[h3]at h;exact List.eq_nil_of_length_eq_zero h
theorem Fh(hc:(Aj c).1=0):∀i∈c.list,Au i.op=true:=fun i hi=>by
 obtain⟨h1,h2,h3⟩:=Ax.1 hc;obtain⟨k,hk,e⟩:=List.mem_iff_getElem.1 hi;rw[←e];exact(Ar (AV h2 hk)).1
theorem Df(hc:(Aj c).1=0){k:Nat}(hk:k<c.list.length)(o:c.list[k].op=32\/c.list[k].op=33):∃n:Nat,c.list[k].n=(n:Int)/\n<c.slots.length:=by
 obtain⟨h1,h2,h3⟩:=Ax.1 hc;obtain⟨t1,t2,t3,t4⟩:=Ar (AV h2 hk);unfold AR at t2;simp only[Bool.and_eq_true]at t2;have h:=t2.2.2.2.2;have e:(A4 c.list[k].op).n=10:=by rcases o with e|e<;>(rw[e];decide)
 unfold Bt at h;rw[if_neg (by rw[e];decide)]at h;simp only[Bool.and_eq_true]at h;have h:=h.2;unfold DU at h;rw[if_neg (by rw[e];decide),if_neg (by rw[e];decide),if_pos e]at h;simp only[Bool.and_eq_true]at h;have hp:=h.1;unfold BF at hp;simp only[Bool.and_eq_true,decide_eq_true_eq]at hp;exact⟨c.list[k].n.toNat,oM,oM⟩
theorem Gv(hc:(Aj c).1=0):∀j k (hj:j<c.list.length) (hk:k<c.list.length),c.list[j].op=33->c.list[k].op=32->c.list[j].n.toNat=c.list[k].n.toNat->c.list[j].n=c.list[k].n:=fun j k hj hk o1 o2 e=>by
 obtain⟨n,e1,-⟩:=Df hc hj (.inr o1);obtain⟨m,e2,-⟩:=Df hc hk (.inl o2);omega
theorem I4(hc:(Aj c).1=0){k:Nat}(hk:k<c.list.length)(o:c.list[k].op=35\/c.list[k].op=37):∃b S,Ai (c.list.take k)=b::S:=by
 obtain⟨h1,h2,h3⟩:=Ax.1 hc;obtain⟨t1,t2,t3,t4⟩:=Ar (AV h2 hk);have hl:=EK h2 (Nat.le_of_lt hk);have hne:(Bn ⟨[],[]⟩ (c.list.take k)).opens.isEmpty=false:=by
  generalize Bn ⟨[],[]⟩ (c.list.take k)=x at t3;obtain⟨X,O⟩:=x;unfold AC at t3;rw[if_neg oM]at t3;rcases o with e|e
  ·rw[if_pos e]at t3;simp only[Bool.and_eq_true,Bool.not_eq_true']at t3;exact t3.1
  ·rw[if_neg oM,if_pos e]at t3;unfold Bc at t3;cases O with
   |nil=>simp at t3
   |cons _ _=>rfl
 cases hs:Ai (c.list.take k)with
 |nil=>
  rw[hs]at hl;have:(Bn ⟨[],[]⟩ (c.list.take k)).opens=[]:=List.eq_nil_of_length_eq_zero hl.symm;rw[this]at hne;cases hne
 |cons b S=>exact⟨b,S,rfl⟩
end
def Ci:List Nat->Int
 |[]=> -1
 |b::_=>(b:Int)
def Dx(l:List Ab)(p:Nat):Int:=Ci (FM l p)
theorem G6(S:List Nat):(S.head?=none/\Ci S= -1)\/∃b,S.head?=some b/\Ci S=(b:Int):=by
 cases S with
 |nil=>exact .inl ⟨rfl,rfl⟩
 |cons b S=>exact .inr ⟨b,rfl,rfl⟩
section
variable {c : Cd}
theorem JM(hc:(Aj c).1=0){k:Nat}(hk:k<c.list.length)(o:c.list[k].op=35\/c.list[k].op=37):∃b S,Ai (c.list.take k)=b::S/\b<k/\Dx c.list b=Ci S/\Dx c.list k=Ci S/\B7 c.list b k/\Ai (c.list.take (k+1))=S:=by
 obtain⟨b,S,hs⟩:=I4 hc hk o;obtain⟨g1,g2⟩:=CE k (Nat.le_of_lt hk) b S hs;obtain⟨hb,-,ob⟩:=Bq c.list k (Nat.le_of_lt hk) b (by rw[hs];simp);refine⟨b,S,hs,g1,?_,?_,⟨hk,o,by rw[hs];rfl⟩,?_⟩
 ·unfold Dx;rw[C2 hb,if_neg oM,g2]
 ·unfold Dx;rw[C2 hk,if_pos o,hs];rfl
 ·rw[Dv hk,if_neg oM,if_pos o,hs];rfl
theorem JL{l:List Ab}{k:Nat}(hk:k<l.length)(o:l[k].op=34\/l[k].op=36):Dx l k=Ci (Ai (l.take k))/\Ci (Ai (l.take (k+1)))=(k:Int):=by
 constructor
 ·unfold Dx;rw[C2 hk,if_neg oM]
 ·rw[Dv hk,if_pos o];rfl
theorem JN{l:List Ab}{k:Nat}(hk:k<l.length)(o:¬ (l[k].op=34\/l[k].op=36))(o':¬ (l[k].op=35\/l[k].op=37)):Dx l k=Ci (Ai (l.take k))/\Ai (l.take (k+1))=Ai (l.take k):=by
 constructor
 ·unfold Dx;rw[C2 hk,if_neg o']
 ·rw[Dv hk,if_neg o,if_neg o']
end
def Jc(l:List Ab)(k r:Nat):List Nat:=(List.range k).filter fun k=>(l[k]?.map fun i=>Aa i&&decide (i.d.toNat=r))==some true
def Jn(l:List Ab)(k r:Nat):List Nat:=(List.range k).filter fun k=>(l[k]?.map fun i=>decide (i.op=33)&&decide (i.n.toNat=r))==some true
theorem EH{l:List Ab}{k:Nat}(hk:k<l.length)(r:Nat):Jc l (k+1) r=Jc l k r++(if Aa l[k]=true/\l[k].d.toNat=r then [k]else []):=by
 unfold Jc;rw[List.range_succ,List.filter_append];congr 1;simp only[List.filter_cons,List.filter_nil,List.getElem?_eq_getElem hk];by_cases h1:Aa l[k]=true<;>by_cases h2:l[k].d.toNat=r<;>simp[h1,h2]
theorem EL{l:List Ab}{k:Nat}(hk:k<l.length)(r:Nat):Jn l (k+1) r=Jn l k r++(if l[k].op=33/\l[k].n.toNat=r then [k]else []):=by
 unfold Jn;rw[List.range_succ,List.filter_append];congr 1;simp only[List.filter_cons,List.filter_nil,List.getElem?_eq_getElem hk];by_cases h1:l[k].op=33<;>by_cases h2:l[k].n.toNat=r<;>simp[h1,h2]
structure HV(l:List Ab)(q:Sr):Prop where
 si:SI l q []
 par:BS l q
 out:∀k (hk:k<l.length),l[k].op=31->q.nd k=true
def LM:Sr:=⟨fun _=>false,[],fun _=>false,fun _=>false⟩
def Cn(l:List Ab):Nat->Sr
 |0=>LM
 |k+1=>match l[k]? with
  |some i=>if i.op=31 then need1 (Cn l k) k else Cn l k
  |none=>Cn l k
theorem Fo{l:List Ab}{k:Nat}(hk:k<l.length)(o:l[k].op=31):Cn l (k+1)=need1 (Cn l k) k:=by
 rw[Cn,List.getElem?_eq_getElem hk];exact if_pos o
theorem GN{l:List Ab}{k:Nat}(hk:k<l.length)(o:l[k].op≠31):Cn l (k+1)=Cn l k:=by
 rw[Cn,List.getElem?_eq_getElem hk];exact if_neg o
theorem EX{l:List Ab}:∀k,k<=l.length->SI l (Cn l k) []/\BS l (Cn l k)/\(∀j (hj:j<l.length),j<k->l[j].op=31->(Cn l k).nd j=true)/\B6 l (Cn l k)=l.length:=by
 intro k;induction k with
 |zero=>
  intro _;refine⟨⟨fun p h=>Ku,fun p h=>Ku,fun p h=>Ku,fun r h=>Ku,fun r h=>Ku⟩,fun b k _=>rfl,fun j _ h=>by omega,?_⟩;unfold B6 Cn LM;simp only[Bool.not_false,List.length_nil,Nat.add_zero];rw[List.filter_eq_self.2 (fun _ _=>rfl),List.length_range]
 |succ k ih=>
  intro hk;have hkl:k<l.length:=oM;obtain⟨h1,h2,h3,h4⟩:=ih oM;by_cases o:l[k].op=31
  ·rw[Fo hkl o];refine⟨h1.need1 hkl (.out hkl o),?_,fun j hj hlt oj=>(BO _ _ _).2 ?_,(El _ hkl).trans h4⟩
   ·exact h2.other (ps:=[k]) (fun p hp=>by simp only[List.mem_singleton]at hp;subst hp;exact⟨hkl,oM⟩)
   ·by_cases e:j=k
    ·exact .inr e
    ·exact .inl (h3 j hj oM oj)
  ·rw[GN hkl o];refine⟨h1,h2,fun j hj hlt oj=>?_,h4⟩;by_cases e:j=k
   ·subst e;exact absurd oj o
   ·exact h3 j hj oM oj
theorem HV.begun(l:List Ab):HV l (Cn l l.length):=by
 obtain⟨h1,h2,h3,-⟩:=EX (l:=l) l.length (Nat.le_refl _);exact⟨h1,h2,fun k hk o=>h3 k hk hk o⟩
theorem HV.next{c:Cd}(hc:(Aj c).1=0){q:Sr}(h:HV c.list q){t:List Nat}{p:Nat}(ht:q.todo=t++[p]):∃hp:p<c.list.length,HV c.list (goQ c.list {q with todo:=t} p c.list[p])/\B6 c.list (goQ c.list {q with todo:=t} p c.list[p])+1=B6 c.list q:=by
 have hp:p<c.list.length:=(h.si.snd p (h.si.tod p (by rw[ht];simp))).1;obtain⟨a1,a2,a3,a4⟩:=JE (GW hc) (Fh hc) (Gv hc) h.si h.par ht hp;exact⟨hp,⟨a1,a2,fun k hk o=>a4 k (h.out k hk o)⟩,a3⟩
theorem HV.done{l:List Ab}{q:Sr}(h:HV l q)(ht:q.todo=[])(p:Nat):q.nd p=ndK l p:=Ht h.si ht h.par h.out p


theorem CJ{tag:Nat->Nat}{v:Value}{m g b k H:Nat}(tv:∀g,v.ownBlock=some g->tag g=m)(hat:v.ownBlock=some g\/g=H)(hb:tag b=k)(hk:k≠m)(hlt:b<H):b≠g:=by
 rcases hat with hat|hat
 ·exact A9 hb (tv g hat) hk
 ·omega
section
variable {E : Nat} {c : Cd} {s : RW} {V : World} {B C SB IB MB nm rb ro q1 : Nat} {vk vo vl : Value} {tag : Nat -> Nat}
end
structure CF where
 sl:Nat->List Nat
 tl:Nat->List Nat
 ar:Nat->Int
 en:Nat->Int
 nd:Nat->Bool
 todo:List Nat
structure AE(E R S L:Nat)(s:CF)(w:World)(B C GB TB AB NB DB:Nat)(vg vt:Nat->Value)(vd:Value)(tag:Nat->Nat):Prop where
 b:w.rowIs B 77 7 (BH #[.pointer (some ⟨C,0,none⟩),.slice (some ⟨GB,0,none⟩) R R,.slice (some ⟨TB,0,none⟩) S S,.slice (some ⟨AB,0,none⟩) L L,.slice (some ⟨NB,0,none⟩) L L,.slice (some ⟨DB,0,none⟩) L L,vd])
 g:w.rowIs GB 61 R vg
 t:w.rowIs TB 61 S vt
 a:w.rowIs AB 3 L (fun p=>.int .i64 (s.ar p))
 n:w.rowIs NB 3 L (fun p=>.int .i64 (s.en p))
 d:w.rowIs DB 4 L (fun p=>.bool (s.nd p))
 gs:∀r,r<R->w.ownsRow E 3 1 (vg r) (s.sl r).length (AG (s.sl r))
 ts:∀r,r<S->w.ownsRow E 3 1 (vt r) (s.tl r).length (AG (s.tl r))
 td:w.ownsRow E 3 1 vd s.todo.length (AG s.todo)
 hB:E<=B
 hG:E<=GB
 hT:E<=TB
 hA:E<=AB
 hN:E<=NB
 hD:E<=DB
 tB:tag B=1
 tG:tag GB=2
 tT:tag TB=3
 tA:tag AB=4
 tN:tag NB=5
 tD:tag DB=6
 tgs:∀r,r<R->∀q,(vg r).ownBlock=some q->tag q=8+2*r
 tts:∀r,r<S->∀q,(vt r).ownBlock=some q->tag q=9+2*r
 ttd:∀q,vd.ownBlock=some q->tag q=7
section
variable {E R S L : Nat} {s : CF} {V w w' : World} {B C GB TB AB NB DB : Nat} {vg vt : Nat -> Value} {vd : Value} {tag : Nat -> Nat}
theorem AE.lt(h:AE E R S L s w B C GB TB AB NB DB vg vt vd tag):E<=w.heap.size:=Nat.le_trans h.hB (Nat.le_of_lt h.b.lt)
theorem AE.keep(h:AE E R S L s w B C GB TB AB NB DB vg vt vd tag)(k:∀b,b<w.heap.size->w'.heap[b]? =w.heap[b]?):AE E R S L s w' B C GB TB AB NB DB vg vt vd tag:=
 {h with
  b:=h.b.of_block (k _ h.b.lt)
  g:=h.g.of_block (k _ h.g.lt)
  t:=h.t.of_block (k _ h.t.lt)
  a:=h.a.of_block (k _ h.a.lt)
  n:=h.n.of_block (k _ h.n.lt)
  d:=h.d.of_block (k _ h.d.lt)
  gs:=fun r hr=>A7 (h.gs r hr) fun q hq=>k q ((h.gs r hr).lt q hq).2
  ts:=fun r hr=>A7 (h.ts r hr) fun q hq=>k q ((h.ts r hr).lt q hq).2
  td:=A7 h.td fun q hq=>k q (h.td.lt q hq).2}
theorem AE.below(h:AE E R S L s w B C GB TB AB NB DB vg vt vd tag)(k:Below w.heap.size w w'):AE E R S L s w' B C GB TB AB NB DB vg vt vd tag:=h.keep k.block
theorem AE.b0(h:AE E R S L s w B C GB TB AB NB DB vg vt vd tag):w.cell? ⟨B,0,none⟩=some (.pointer (some ⟨C,0,none⟩)):=h.b.cell (i:=0) dE
theorem AE.b1(h:AE E R S L s w B C GB TB AB NB DB vg vt vd tag):w.cell? ⟨B,1,none⟩=some (.slice (some ⟨GB,0,none⟩) R R):=h.b.cell (i:=1) dE
theorem AE.b2(h:AE E R S L s w B C GB TB AB NB DB vg vt vd tag):w.cell? ⟨B,2,none⟩=some (.slice (some ⟨TB,0,none⟩) S S):=h.b.cell (i:=2) dE
theorem AE.b3(h:AE E R S L s w B C GB TB AB NB DB vg vt vd tag):w.cell? ⟨B,3,none⟩=some (.slice (some ⟨AB,0,none⟩) L L):=h.b.cell (i:=3) dE
theorem AE.b4(h:AE E R S L s w B C GB TB AB NB DB vg vt vd tag):w.cell? ⟨B,4,none⟩=some (.slice (some ⟨NB,0,none⟩) L L):=h.b.cell (i:=4) dE
theorem AE.b5(h:AE E R S L s w B C GB TB AB NB DB vg vt vd tag):w.cell? ⟨B,5,none⟩=some (.slice (some ⟨DB,0,none⟩) L L):=h.b.cell (i:=5) dE
theorem AE.b6(h:AE E R S L s w B C GB TB AB NB DB vg vt vd tag):w.cell? ⟨B,6,none⟩=some (vd):=h.b.cell (i:=6) dE
theorem AE.setNd(h:AE E R S L s V B C GB TB AB NB DB vg vt vd tag)(p:Nat)(x:Bool):
 AE E R S L {s with nd:=fun k=>if k=p then x else s.nd k} (V.setCell ⟨DB,p,none⟩ (.bool x)) B C GB TB AB NB DB vg vt vd tag:=by
 have kk:∀b,b≠DB->(V.setCell ⟨DB,p,none⟩ (.bool x)).heap[b]? =V.heap[b]? :=fun b hb=>Below.heap_setCell _ _ _ _ hb;exact{h with
  b:=h.b.of_block (kk _ (A9 h.tB h.tD dE))
  g:=h.g.of_block (kk _ (A9 h.tG h.tD dE))
  t:=h.t.of_block (kk _ (A9 h.tT h.tD dE))
  a:=h.a.of_block (kk _ (A9 h.tA h.tD dE))
  n:=h.n.of_block (kk _ (A9 h.tN h.tD dE))
  d:=(h.d.set p _).congr fun j hj=>by
   show _=(Value.bool (if j=p then x else s.nd j));exact M4
  gs:=fun r hr=>A7 (h.gs r hr) fun q hq=>kk q (A9 (h.tgs r hr q hq) h.tD oM)
  ts:=fun r hr=>A7 (h.ts r hr) fun q hq=>kk q (A9 (h.tts r hr q hq) h.tD oM)
  td:=A7 h.td fun q hq=>kk q (A9 (h.ttd q hq) h.tD dE)}
theorem AE.setAr(h:AE E R S L s V B C GB TB AB NB DB vg vt vd tag)(p:Nat)(x:Int):
 AE E R S L {s with ar:=fun k=>if k=p then x else s.ar k} (V.setCell ⟨AB,p,none⟩ (.int .i64 x)) B C GB TB AB NB DB vg vt vd tag:=by
 have kk:∀b,b≠AB->(V.setCell ⟨AB,p,none⟩ (.int .i64 x)).heap[b]? =V.heap[b]? :=fun b hb=>Below.heap_setCell _ _ _ _ hb;exact{h with
  b:=h.b.of_block (kk _ (A9 h.tB h.tA dE))
  g:=h.g.of_block (kk _ (A9 h.tG h.tA dE))
  t:=h.t.of_block (kk _ (A9 h.tT h.tA dE))
  n:=h.n.of_block (kk _ (A9 h.tN h.tA dE))
  d:=h.d.of_block (kk _ (A9 h.tD h.tA dE))
  a:=(h.a.set p _).congr fun j hj=>by
   show _=(Value.int .i64 (if j=p then x else s.ar j));exact M4
  gs:=fun r hr=>A7 (h.gs r hr) fun q hq=>kk q (A9 (h.tgs r hr q hq) h.tA oM)
  ts:=fun r hr=>A7 (h.ts r hr) fun q hq=>kk q (A9 (h.tts r hr q hq) h.tA oM)
  td:=A7 h.td fun q hq=>kk q (A9 (h.ttd q hq) h.tA dE)}
theorem AE.setEn(h:AE E R S L s V B C GB TB AB NB DB vg vt vd tag)(p:Nat)(x:Int):
 AE E R S L {s with en:=fun k=>if k=p then x else s.en k} (V.setCell ⟨NB,p,none⟩ (.int .i64 x)) B C GB TB AB NB DB vg vt vd tag:=by
 have kk:∀b,b≠NB->(V.setCell ⟨NB,p,none⟩ (.int .i64 x)).heap[b]? =V.heap[b]? :=fun b hb=>Below.heap_setCell _ _ _ _ hb;exact{h with
  b:=h.b.of_block (kk _ (A9 h.tB h.tN dE))
  g:=h.g.of_block (kk _ (A9 h.tG h.tN dE))
  t:=h.t.of_block (kk _ (A9 h.tT h.tN dE))
  a:=h.a.of_block (kk _ (A9 h.tA h.tN dE))
  d:=h.d.of_block (kk _ (A9 h.tD h.tN dE))
  n:=(h.n.set p _).congr fun j hj=>by
   show _=(Value.int .i64 (if j=p then x else s.en j));exact M4
  gs:=fun r hr=>A7 (h.gs r hr) fun q hq=>kk q (A9 (h.tgs r hr q hq) h.tN oM)
  ts:=fun r hr=>A7 (h.ts r hr) fun q hq=>kk q (A9 (h.tts r hr q hq) h.tN oM)
  td:=A7 h.td fun q hq=>kk q (A9 (h.ttd q hq) h.tN dE)}
theorem AE.setTodo(h:AE E R S L s V B C GB TB AB NB DB vg vt vd tag){vd':Value}{O:List Nat}(ho:V.ownsRow E 3 1 vd' O.length (AG O))(ht:∀g,vd'.ownBlock=some g->tag g=7):
 AE E R S L {s with todo:=O} (V.setCell ⟨B,6,none⟩ vd') B C GB TB AB NB DB vg vt vd' tag:=by
 have kk:∀b,b≠B->(V.setCell ⟨B,6,none⟩ vd').heap[b]? =V.heap[b]? :=fun b hb=>Below.heap_setCell _ _ _ _ hb;exact{h with
  b:=(h.b.set 6 vd').congr fun j hj=>by
   have hj7:j=0\/j=1\/j=2\/j=3\/j=4\/j=5\/j=6:=oM;rcases hj7 with rfl|rfl|rfl|rfl|rfl|rfl|rfl<;>rfl
  g:=h.g.of_block (kk _ (A9 h.tG h.tB dE))
  t:=h.t.of_block (kk _ (A9 h.tT h.tB dE))
  a:=h.a.of_block (kk _ (A9 h.tA h.tB dE))
  n:=h.n.of_block (kk _ (A9 h.tN h.tB dE))
  d:=h.d.of_block (kk _ (A9 h.tD h.tB dE))
  gs:=fun r hr=>A7 (h.gs r hr) fun q hq=>kk q (A9 (h.tgs r hr q hq) h.tB oM)
  ts:=fun r hr=>A7 (h.ts r hr) fun q hq=>kk q (A9 (h.tts r hr q hq) h.tB oM)
  td:=A7 ho fun q hq=>kk q (A9 (ht q hq) h.tB dE)
  ttd:=ht}
theorem AE.growTodo(h:AE E R S L s V B C GB TB AB NB DB vg vt vd tag){w3:World}{g cap:Nat}{O:List Nat}(hg:V.grownBy w3 vd.ownBlock)(hat:vd.ownBlock=some g\/g=V.heap.size)(hown:w3.ownsRow E 3 1 (.slice (some ⟨g,0,none⟩) O.length cap) O.length (AG O)):
 AE E R S L {s with todo:=O} (w3.setCell ⟨B,6,none⟩ (.slice (some ⟨g,0,none⟩) O.length cap)) B C GB TB AB NB DB vg vt (.slice (some ⟨g,0,none⟩) O.length cap) (fun b=>if b=g then 7 else tag b)/\w3.cell? ⟨B,6,none⟩=some vd/\w3.frozen? ⟨B,6,none⟩=false/\Below E V w3:=by
 have hne:∀b k,b<V.heap.size->tag b=k->k≠7->b≠g:=fun b k hb hk hm=>CJ h.ttd hat hk hm hb;have k3:∀b k,b<V.heap.size->tag b=k->k≠7->w3.heap[b]? =V.heap[b]? :=fun b k hb hk hm=>hg.block b hb fun e=>hm (by rw[←hk];exact h.ttd b e.symm);have kk:∀b k,b<V.heap.size->tag b=k->k≠7->k≠1->(w3.setCell ⟨B,6,none⟩ (.slice (some ⟨g,0,none⟩) O.length cap)).heap[b]? =V.heap[b]? :=fun b k hb hk hm h1=>(Below.heap_setCell _ _ _ _ (A9 hk h.tB h1)).trans (k3 b k hb hk hm);have hB3:=h.b.of_block (k3 B 1 h.b.lt h.tB dE);refine⟨?_,hB3.cell (i:=6) dE,hB3.frozen 6,(Below.refl E V).grown hg h.lt (fun q e=>(h.td.lt q e).1)⟩;exact{h with
  b:=(hB3.set 6 _).congr fun j hj=>by
   have hj7:j=0\/j=1\/j=2\/j=3\/j=4\/j=5\/j=6:=oM;rcases hj7 with rfl|rfl|rfl|rfl|rfl|rfl|rfl<;>rfl
  g:=h.g.of_block (kk _ 2 h.g.lt h.tG dE dE)
  t:=h.t.of_block (kk _ 3 h.t.lt h.tT dE dE)
  a:=h.a.of_block (kk _ 4 h.a.lt h.tA dE dE)
  n:=h.n.of_block (kk _ 5 h.n.lt h.tN dE dE)
  d:=h.d.of_block (kk _ 6 h.d.lt h.tD dE dE)
  gs:=fun r hr=>A7 (h.gs r hr) fun q hq=>kk q (8+2*r) ((h.gs r hr).lt q hq).2 (h.tgs r hr q hq) oM oM
  ts:=fun r hr=>A7 (h.ts r hr) fun q hq=>kk q (9+2*r) ((h.ts r hr).lt q hq).2 (h.tts r hr q hq) oM oM
  td:=A7 hown fun q hq=>Below.heap_setCell _ _ _ _ (by have e:g=q:=Option.some.inj hq;show q≠B;rw[←e];exact(hne B 1 h.b.lt h.tB dE).symm)
  tB:=by show(if B=g then _ else _)=_;rw[if_neg (hne _ 1 h.b.lt h.tB dE)];exact h.tB
  tG:=by show(if GB=g then _ else _)=_;rw[if_neg (hne _ 2 h.g.lt h.tG dE)];exact h.tG
  tT:=by show(if TB=g then _ else _)=_;rw[if_neg (hne _ 3 h.t.lt h.tT dE)];exact h.tT
  tA:=by show(if AB=g then _ else _)=_;rw[if_neg (hne _ 4 h.a.lt h.tA dE)];exact h.tA
  tN:=by show(if NB=g then _ else _)=_;rw[if_neg (hne _ 5 h.n.lt h.tN dE)];exact h.tN
  tD:=by show(if DB=g then _ else _)=_;rw[if_neg (hne _ 6 h.d.lt h.tD dE)];exact h.tD
  tgs:=fun r hr q hq=>by show(if q=g then _ else _)=_;rw[if_neg (hne _ (8+2*r) ((h.gs r hr).lt q hq).2 (h.tgs r hr q hq) oM)];exact h.tgs r hr q hq
  tts:=fun r hr q hq=>by show(if q=g then _ else _)=_;rw[if_neg (hne _ (9+2*r) ((h.ts r hr).lt q hq).2 (h.tts r hr q hq) oM)];exact h.tts r hr q hq
  ttd:=fun q hq=>by show(if q=g then _ else _)=_;rw[if_pos (Option.some.inj hq).symm]}
theorem AE.setSl(h:AE E R S L s V B C GB TB AB NB DB vg vt vd tag){v':Value}{O:List Nat}{r:Nat}(hr:r<R)(ho:V.ownsRow E 3 1 v' O.length (AG O))(ht:∀g,v'.ownBlock=some g->tag g=8+2*r):
 AE E R S L {s with sl:=fun k=>if k=r then O else s.sl k} (V.setCell ⟨GB,r,none⟩ v') B C GB TB AB NB DB (fun k=>if k=r then v' else vg k) vt vd tag:=by
 have kk:∀b,b≠GB->(V.setCell ⟨GB,r,none⟩ v').heap[b]? =V.heap[b]? :=fun b hb=>Below.heap_setCell _ _ _ _ hb;exact{h with
  b:=h.b.of_block (kk _ (A9 h.tB h.tG dE))
  t:=h.t.of_block (kk _ (A9 h.tT h.tG dE))
  a:=h.a.of_block (kk _ (A9 h.tA h.tG dE))
  n:=h.n.of_block (kk _ (A9 h.tN h.tG dE))
  d:=h.d.of_block (kk _ (A9 h.tD h.tG dE))
  g:=(h.g.set r v').congr fun j hj=>rfl
  gs:=fun k hk=>by
   by_cases e:k=r
   ·simp only[if_pos e];exact A7 ho fun q hq=>kk q (A9 (ht q hq) h.tG oM)
   ·simp only[if_neg e];exact A7 (h.gs k hk) fun q hq=>kk q (A9 (h.tgs k hk q hq) h.tG oM)
  ts:=fun k hk=>A7 (h.ts k hk) fun q hq=>kk q (A9 (h.tts k hk q hq) h.tG oM)
  td:=A7 h.td fun q hq=>kk q (A9 (h.ttd q hq) h.tG dE)
  tgs:=fun k hk q hq=>by
   by_cases e:k=r
   ·simp only[if_pos e]at hq;rw[e];exact ht q hq
   ·simp only[if_neg e]at hq
    exact h.tgs k hk q hq}
theorem AE.growSl(h:AE E R S L s V B C GB TB AB NB DB vg vt vd tag){w3:World}{g cap:Nat}{O:List Nat}{r:Nat}(hr:r<R)(hg:V.grownBy w3 (vg r).ownBlock)(hat:(vg r).ownBlock=some g\/g=V.heap.size)(hown:w3.ownsRow E 3 1 (.slice (some ⟨g,0,none⟩) O.length cap) O.length (AG O)):
 AE E R S L {s with sl:=fun k=>if k=r then O else s.sl k} (w3.setCell ⟨GB,r,none⟩ (.slice (some ⟨g,0,none⟩) O.length cap)) B C GB TB AB NB DB (fun k=>if k=r then(.slice (some ⟨g,0,none⟩) O.length cap)else vg k) vt vd (fun b=>if b=g then 8+2*r else tag b)/\w3.cell? ⟨GB,r,none⟩=some (vg r)/\w3.frozen? ⟨GB,r,none⟩=false/\Below E V w3:=by
 have hne:∀b k,b<V.heap.size->tag b=k->k≠8+2*r->b≠g:=fun b k hb hk hm=>CJ (h.tgs r hr) hat hk hm hb;have k3:∀b k,b<V.heap.size->tag b=k->k≠8+2*r->w3.heap[b]? =V.heap[b]? :=fun b k hb hk hm=>hg.block b hb fun e=>hm (by rw[←hk];exact h.tgs r hr b e.symm);have kk:∀b k,b<V.heap.size->tag b=k->k≠8+2*r->k≠2->(w3.setCell ⟨GB,r,none⟩ (.slice (some ⟨g,0,none⟩) O.length cap)).heap[b]? =V.heap[b]? :=fun b k hb hk hm h1=>(Below.heap_setCell _ _ _ _ (A9 hk h.tG h1)).trans (k3 b k hb hk hm);have hB3:=h.g.of_block (k3 GB 2 h.g.lt h.tG oM);refine⟨?_,hB3.cell hr,hB3.frozen r,(Below.refl E V).grown hg h.lt (fun q e=>((h.gs r hr).lt q e).1)⟩;exact{h with
  b:=h.b.of_block (kk _ 1 h.b.lt h.tB oM dE)
  t:=h.t.of_block (kk _ 3 h.t.lt h.tT oM dE)
  a:=h.a.of_block (kk _ 4 h.a.lt h.tA oM dE)
  n:=h.n.of_block (kk _ 5 h.n.lt h.tN oM dE)
  d:=h.d.of_block (kk _ 6 h.d.lt h.tD oM dE)
  g:=(hB3.set r _).congr fun j hj=>rfl
  gs:=fun k hk=>by
   by_cases e:k=r
   ·simp only[if_pos e];exact A7 hown fun q hq=>Below.heap_setCell _ _ _ _ (by have e:g=q:=Option.some.inj hq;show q≠GB;rw[←e];exact(hne GB 2 h.g.lt h.tG oM).symm)
   ·simp only[if_neg e];exact A7 (h.gs k hk) fun q hq=>kk q (8+2*k) ((h.gs k hk).lt q hq).2 (h.tgs k hk q hq) oM oM
  ts:=fun k hk=>A7 (h.ts k hk) fun q hq=>kk q (9+2*k) ((h.ts k hk).lt q hq).2 (h.tts k hk q hq) oM oM
  td:=A7 h.td fun q hq=>kk q 7 (h.td.lt q hq).2 (h.ttd q hq) oM dE
  tB:=by show(if B=g then _ else _)=_;rw[if_neg (hne _ 1 h.b.lt h.tB oM)];exact h.tB
  tG:=by show(if GB=g then _ else _)=_;rw[if_neg (hne _ 2 h.g.lt h.tG oM)];exact h.tG
  tT:=by show(if TB=g then _ else _)=_;rw[if_neg (hne _ 3 h.t.lt h.tT oM)];exact h.tT
  tA:=by show(if AB=g then _ else _)=_;rw[if_neg (hne _ 4 h.a.lt h.tA oM)];exact h.tA
  tN:=by show(if NB=g then _ else _)=_;rw[if_neg (hne _ 5 h.n.lt h.tN oM)];exact h.tN
  tD:=by show(if DB=g then _ else _)=_;rw[if_neg (hne _ 6 h.d.lt h.tD oM)];exact h.tD
  tgs:=fun k hk q hq=>by
   show(if q=g then _ else _)=_;by_cases e:k=r
   ·simp only[if_pos e]at hq;rw[if_pos (Option.some.inj hq).symm,e]
   ·simp only[if_neg e]at hq;rw[if_neg (hne _ (8+2*k) ((h.gs k hk).lt q hq).2 (h.tgs k hk q hq) oM)];exact h.tgs k hk q hq
  tts:=fun k hk q hq=>by show(if q=g then _ else _)=_;rw[if_neg (hne _ (9+2*k) ((h.ts k hk).lt q hq).2 (h.tts k hk q hq) oM)];exact h.tts k hk q hq
  ttd:=fun q hq=>by show(if q=g then _ else _)=_;rw[if_neg (hne _ 7 (h.td.lt q hq).2 (h.ttd q hq) oM)];exact h.ttd q hq}
theorem AE.setTl(h:AE E R S L s V B C GB TB AB NB DB vg vt vd tag){v':Value}{O:List Nat}{r:Nat}(hr:r<S)(ho:V.ownsRow E 3 1 v' O.length (AG O))(ht:∀g,v'.ownBlock=some g->tag g=9+2*r):
 AE E R S L {s with tl:=fun k=>if k=r then O else s.tl k} (V.setCell ⟨TB,r,none⟩ v') B C GB TB AB NB DB vg (fun k=>if k=r then v' else vt k) vd tag:=by
 have kk:∀b,b≠TB->(V.setCell ⟨TB,r,none⟩ v').heap[b]? =V.heap[b]? :=fun b hb=>Below.heap_setCell _ _ _ _ hb;exact{h with
  b:=h.b.of_block (kk _ (A9 h.tB h.tT dE))
  g:=h.g.of_block (kk _ (A9 h.tG h.tT dE))
  a:=h.a.of_block (kk _ (A9 h.tA h.tT dE))
  n:=h.n.of_block (kk _ (A9 h.tN h.tT dE))
  d:=h.d.of_block (kk _ (A9 h.tD h.tT dE))
  t:=(h.t.set r v').congr fun j hj=>rfl
  ts:=fun k hk=>by
   by_cases e:k=r
   ·simp only[if_pos e];exact A7 ho fun q hq=>kk q (A9 (ht q hq) h.tT oM)
   ·simp only[if_neg e];exact A7 (h.ts k hk) fun q hq=>kk q (A9 (h.tts k hk q hq) h.tT oM)
  gs:=fun k hk=>A7 (h.gs k hk) fun q hq=>kk q (A9 (h.tgs k hk q hq) h.tT oM)
  td:=A7 h.td fun q hq=>kk q (A9 (h.ttd q hq) h.tT dE)
  tts:=fun k hk q hq=>by
   by_cases e:k=r
   ·simp only[if_pos e]at hq;rw[e];exact ht q hq
   ·simp only[if_neg e]at hq
    exact h.tts k hk q hq}
theorem AE.growTl(h:AE E R S L s V B C GB TB AB NB DB vg vt vd tag){w3:World}{g cap:Nat}{O:List Nat}{r:Nat}(hr:r<S)(hg:V.grownBy w3 (vt r).ownBlock)(hat:(vt r).ownBlock=some g\/g=V.heap.size)(hown:w3.ownsRow E 3 1 (.slice (some ⟨g,0,none⟩) O.length cap) O.length (AG O)):
 AE E R S L {s with tl:=fun k=>if k=r then O else s.tl k} (w3.setCell ⟨TB,r,none⟩ (.slice (some ⟨g,0,none⟩) O.length cap)) B C GB TB AB NB DB vg (fun k=>if k=r then(.slice (some ⟨g,0,none⟩) O.length cap)else vt k) vd (fun b=>if b=g then 9+2*r else tag b)/\w3.cell? ⟨TB,r,none⟩=some (vt r)/\w3.frozen? ⟨TB,r,none⟩=false/\Below E V w3:=by
 have hne:∀b k,b<V.heap.size->tag b=k->k≠9+2*r->b≠g:=fun b k hb hk hm=>CJ (h.tts r hr) hat hk hm hb;have k3:∀b k,b<V.heap.size->tag b=k->k≠9+2*r->w3.heap[b]? =V.heap[b]? :=fun b k hb hk hm=>hg.block b hb fun e=>hm (by rw[←hk];exact h.tts r hr b e.symm);have kk:∀b k,b<V.heap.size->tag b=k->k≠9+2*r->k≠3->(w3.setCell ⟨TB,r,none⟩ (.slice (some ⟨g,0,none⟩) O.length cap)).heap[b]? =V.heap[b]? :=fun b k hb hk hm h1=>(Below.heap_setCell _ _ _ _ (A9 hk h.tT h1)).trans (k3 b k hb hk hm);have hB3:=h.t.of_block (k3 TB 3 h.t.lt h.tT oM);refine⟨?_,hB3.cell hr,hB3.frozen r,(Below.refl E V).grown hg h.lt (fun q e=>((h.ts r hr).lt q e).1)⟩;exact{h with
  b:=h.b.of_block (kk _ 1 h.b.lt h.tB oM dE)
  g:=h.g.of_block (kk _ 2 h.g.lt h.tG oM dE)
  a:=h.a.of_block (kk _ 4 h.a.lt h.tA oM dE)
  n:=h.n.of_block (kk _ 5 h.n.lt h.tN oM dE)
  d:=h.d.of_block (kk _ 6 h.d.lt h.tD oM dE)
  t:=(hB3.set r _).congr fun j hj=>rfl
  ts:=fun k hk=>by
   by_cases e:k=r
   ·simp only[if_pos e];exact A7 hown fun q hq=>Below.heap_setCell _ _ _ _ (by have e:g=q:=Option.some.inj hq;show q≠TB;rw[←e];exact(hne TB 3 h.t.lt h.tT oM).symm)
   ·simp only[if_neg e];exact A7 (h.ts k hk) fun q hq=>kk q (9+2*k) ((h.ts k hk).lt q hq).2 (h.tts k hk q hq) oM oM
  gs:=fun k hk=>A7 (h.gs k hk) fun q hq=>kk q (8+2*k) ((h.gs k hk).lt q hq).2 (h.tgs k hk q hq) oM oM
  td:=A7 h.td fun q hq=>kk q 7 (h.td.lt q hq).2 (h.ttd q hq) oM dE
  tB:=by show(if B=g then _ else _)=_;rw[if_neg (hne _ 1 h.b.lt h.tB oM)];exact h.tB
  tG:=by show(if GB=g then _ else _)=_;rw[if_neg (hne _ 2 h.g.lt h.tG oM)];exact h.tG
  tT:=by show(if TB=g then _ else _)=_;rw[if_neg (hne _ 3 h.t.lt h.tT oM)];exact h.tT
  tA:=by show(if AB=g then _ else _)=_;rw[if_neg (hne _ 4 h.a.lt h.tA oM)];exact h.tA
  tN:=by show(if NB=g then _ else _)=_;rw[if_neg (hne _ 5 h.n.lt h.tN oM)];exact h.tN
  tD:=by show(if DB=g then _ else _)=_;rw[if_neg (hne _ 6 h.d.lt h.tD oM)];exact h.tD
  tts:=fun k hk q hq=>by
   show(if q=g then _ else _)=_;by_cases e:k=r
   ·simp only[if_pos e]at hq;rw[if_pos (Option.some.inj hq).symm,e]
   ·simp only[if_neg e]at hq;rw[if_neg (hne _ (9+2*k) ((h.ts k hk).lt q hq).2 (h.tts k hk q hq) oM)];exact h.tts k hk q hq
  tgs:=fun k hk q hq=>by show(if q=g then _ else _)=_;rw[if_neg (hne _ (8+2*k) ((h.gs k hk).lt q hq).2 (h.tgs k hk q hq) oM)];exact h.tgs k hk q hq
  ttd:=fun q hq=>by show(if q=g then _ else _)=_;rw[if_neg (hne _ 7 (h.td.lt q hq).2 (h.ttd q hq) oM)];exact h.ttd q hq}
end
section
variable {E R S L : Nat} {s : CF} {V w w' : World} {B C GB TB AB NB DB : Nat} {vg vt : Nat -> Value} {vd : Value} {tag : Nat -> Nat}
theorem AE.appTodo(h:AE E R S L s V B C GB TB AB NB DB vg vt vd tag)(hl:s.todo.length<=1000000)(x:Nat):
 ∃g cap w3,(Builtin.append_ #[61,61] 61 #[vd,.slice (some ⟨V.heap.size,0,none⟩) 1 1]).run prog (V.alloc (.cells #[.int .i64 (x:Int)] 3))=.ok (.slice (some ⟨g,0,none⟩) (s.todo.length+1) cap) w3/\AE E R S L {s with todo:=s.todo++[x]} (w3.setCell ⟨B,6,none⟩ (.slice (some ⟨g,0,none⟩) (s.todo.length+1) cap)) B C GB TB AB NB DB vg vt (.slice (some ⟨g,0,none⟩) (s.todo.length+1) cap) (fun b=>if b=g then 7 else tag b)/\w3.cell? ⟨B,6,none⟩=some vd/\w3.frozen? ⟨B,6,none⟩=false/\Below E V w3/\(∀b,b<V.heap.size->vd.ownBlock≠some b->w3.heap[b]? =V.heap[b]?)/\∀b,b<V.heap.size->tag b≠7->b≠g:=by
 obtain⟨i0,hi0,hz0,hz1,hz2⟩:=info_parts Bu;have hb0:Below V.heap.size V (V.alloc (.cells #[.int .i64 (x:Int)] 3)):=A0 _ _;have h0:=h.below hb0;have hsz:(V.alloc (.cells #[.int .i64 (x:Int)] 3)).heap.size=V.heap.size+1:=by show(V.alloc (.cells #[.int .i64 (x:Int)] 3)).heap.size=_;simp
 obtain⟨g,cap,w3,hr',hown,hgrow,hat,hlt⟩:=run_append_lies (P:=prog) (V.alloc (.cells #[.int .i64 (x:Int)] 3)) 61 61 E 3 i0 _ 1 8 underlying61 hi0 hz0 hz1 hz2 rfl dE vd s.todo.length (AG s.todo) h0.td ⟨V.heap.size,0,none⟩ 1 1 ([Value.int .i64 (x:Int)]) rfl
  (World.news_of_block (cs:=#[.int .i64 (x:Int)]) (t:=3) (fr:=(0,0)) (heap_alloc_new V _)) Ld dE mL oM h0.lt _ rfl
 have hn:(s.todo++[x]).length=s.todo.length+1:=sM;have ho:w3.ownsRow E 3 1 (.slice (some ⟨g,0,none⟩) (s.todo++[x]).length cap) (s.todo++[x]).length (AG (s.todo++[x])):=by
  rw[hn];have e9:AG (s.todo++[x])=(AG s.todo)++([Value.int .i64 (x:Int)]):=by simp[AG,KW]
  rw[e9];exact hown
 obtain⟨k1,k2,k3,k4⟩:=h0.growTodo hgrow hat ho;rw[hn]at k1;exact⟨g,cap,w3,hr',k1,k2,k3,(hb0.mono h.lt).trans k4,fun b hb hne=>(hgrow.block b oM (fun e=>hne e.symm)).trans (hb0.block b hb),fun b hb hk=>CJ h0.ttd hat rfl hk oM⟩
theorem AE.appSl(h:AE E R S L s V B C GB TB AB NB DB vg vt vd tag){r:Nat}(hr:r<R)(hl:(s.sl r).length<=1000000)(x:Nat):
 ∃g cap w3,(Builtin.append_ #[61,61] 61 #[(vg r),.slice (some ⟨V.heap.size,0,none⟩) 1 1]).run prog (V.alloc (.cells #[.int .i64 (x:Int)] 3))=.ok (.slice (some ⟨g,0,none⟩) ((s.sl r).length+1) cap) w3/\AE E R S L {s with sl:=fun k=>if k=r then s.sl r++[x]else s.sl k} (w3.setCell ⟨GB,r,none⟩ (.slice (some ⟨g,0,none⟩) ((s.sl r).length+1) cap)) B C GB TB AB NB DB (fun k=>if k=r then(.slice (some ⟨g,0,none⟩) ((s.sl r).length+1) cap)else vg k) vt vd (fun b=>if b=g then 8+2*r else tag b)/\w3.cell? ⟨GB,r,none⟩=some (vg r)/\w3.frozen? ⟨GB,r,none⟩=false/\Below E V w3/\(∀b,b<V.heap.size->(vg r).ownBlock≠some b->w3.heap[b]? =V.heap[b]?)/\∀b,b<V.heap.size->tag b≠8+2*r->b≠g:=by
 obtain⟨i0,hi0,hz0,hz1,hz2⟩:=info_parts Bu;have hb0:Below V.heap.size V (V.alloc (.cells #[.int .i64 (x:Int)] 3)):=A0 _ _;have h0:=h.below hb0;have hsz:(V.alloc (.cells #[.int .i64 (x:Int)] 3)).heap.size=V.heap.size+1:=by show(V.alloc (.cells #[.int .i64 (x:Int)] 3)).heap.size=_;simp
 obtain⟨g,cap,w3,hr',hown,hgrow,hat,hlt⟩:=run_append_lies (P:=prog) (V.alloc (.cells #[.int .i64 (x:Int)] 3)) 61 61 E 3 i0 _ 1 8 underlying61 hi0 hz0 hz1 hz2 rfl dE (vg r) (s.sl r).length (AG (s.sl r)) (h0.gs r hr) ⟨V.heap.size,0,none⟩ 1 1 ([Value.int .i64 (x:Int)]) rfl
  (World.news_of_block (cs:=#[.int .i64 (x:Int)]) (t:=3) (fr:=(0,0)) (heap_alloc_new V _)) Ld dE mL oM h0.lt _ rfl
 exact My
theorem AE.appSlD(h:AE E R S L s V B C GB TB AB NB DB vg vt vd tag){r:Nat}(hr:r<R)(hl:(s.sl r).length<=1000000)(x:Nat):
 ∃g cap w3,(Builtin.append_ #[61,61] 61 #[(vg r),.slice (some ⟨V.heap.size,0,none⟩) 1 1]).run prog (V.alloc (.cells #[.int .i64 (x:Int)] 3)).drew=.ok (.slice (some ⟨g,0,none⟩) ((s.sl r).length+1) cap) w3/\AE E R S L {s with sl:=fun k=>if k=r then s.sl r++[x]else s.sl k} (w3.setCell ⟨GB,r,none⟩ (.slice (some ⟨g,0,none⟩) ((s.sl r).length+1) cap)) B C GB TB AB NB DB (fun k=>if k=r then(.slice (some ⟨g,0,none⟩) ((s.sl r).length+1) cap)else vg k) vt vd (fun b=>if b=g then 8+2*r else tag b)/\w3.cell? ⟨GB,r,none⟩=some (vg r)/\w3.frozen? ⟨GB,r,none⟩=false/\Below E V w3/\(∀b,b<V.heap.size->(vg r).ownBlock≠some b->w3.heap[b]? =V.heap[b]?)/\∀b,b<V.heap.size->tag b≠8+2*r->b≠g:=by
 obtain⟨i0,hi0,hz0,hz1,hz2⟩:=info_parts Bu;have hb0:Below V.heap.size V (V.alloc (.cells #[.int .i64 (x:Int)] 3)).drew:=bel (A0 _ _) (B9 _);have h0:=h.below hb0;have hsz:(V.alloc (.cells #[.int .i64 (x:Int)] 3)).drew.heap.size=V.heap.size+1:=by show(V.alloc (.cells #[.int .i64 (x:Int)] 3)).heap.size=_;simp
 obtain⟨g,cap,w3,hr',hown,hgrow,hat,hlt⟩:=run_append_lies (P:=prog) (V.alloc (.cells #[.int .i64 (x:Int)] 3)).drew 61 61 E 3 i0 _ 1 8 underlying61 hi0 hz0 hz1 hz2 rfl dE (vg r) (s.sl r).length (AG (s.sl r)) (h0.gs r hr) ⟨V.heap.size,0,none⟩ 1 1 ([Value.int .i64 (x:Int)]) rfl
  (World.news_of_block (cs:=#[.int .i64 (x:Int)]) (t:=3) (fr:=(0,0)) (heap_alloc_new V _)) Ld dE mL oM h0.lt _ rfl
 exact My
theorem AE.appTl(h:AE E R S L s V B C GB TB AB NB DB vg vt vd tag){r:Nat}(hr:r<S)(hl:(s.tl r).length<=1000000)(x:Nat):
 ∃g cap w3,(Builtin.append_ #[61,61] 61 #[(vt r),.slice (some ⟨V.heap.size,0,none⟩) 1 1]).run prog (V.alloc (.cells #[.int .i64 (x:Int)] 3))=.ok (.slice (some ⟨g,0,none⟩) ((s.tl r).length+1) cap) w3/\AE E R S L {s with tl:=fun k=>if k=r then s.tl r++[x]else s.tl k} (w3.setCell ⟨TB,r,none⟩ (.slice (some ⟨g,0,none⟩) ((s.tl r).length+1) cap)) B C GB TB AB NB DB vg (fun k=>if k=r then(.slice (some ⟨g,0,none⟩) ((s.tl r).length+1) cap)else vt k) vd (fun b=>if b=g then 9+2*r else tag b)/\w3.cell? ⟨TB,r,none⟩=some (vt r)/\w3.frozen? ⟨TB,r,none⟩=false/\Below E V w3/\(∀b,b<V.heap.size->(vt r).ownBlock≠some b->w3.heap[b]? =V.heap[b]?)/\∀b,b<V.heap.size->tag b≠9+2*r->b≠g:=by
 obtain⟨i0,hi0,hz0,hz1,hz2⟩:=info_parts Bu;have hb0:Below V.heap.size V (V.alloc (.cells #[.int .i64 (x:Int)] 3)):=A0 _ _;have h0:=h.below hb0;have hsz:(V.alloc (.cells #[.int .i64 (x:Int)] 3)).heap.size=V.heap.size+1:=by show(V.alloc (.cells #[.int .i64 (x:Int)] 3)).heap.size=_;simp
 obtain⟨g,cap,w3,hr',hown,hgrow,hat,hlt⟩:=run_append_lies (P:=prog) (V.alloc (.cells #[.int .i64 (x:Int)] 3)) 61 61 E 3 i0 _ 1 8 underlying61 hi0 hz0 hz1 hz2 rfl dE (vt r) (s.tl r).length (AG (s.tl r)) (h0.ts r hr) ⟨V.heap.size,0,none⟩ 1 1 ([Value.int .i64 (x:Int)]) rfl
  (World.news_of_block (cs:=#[.int .i64 (x:Int)]) (t:=3) (fr:=(0,0)) (heap_alloc_new V _)) Ld dE mL oM h0.lt _ rfl
 exact Mz
theorem AE.appTlD(h:AE E R S L s V B C GB TB AB NB DB vg vt vd tag){r:Nat}(hr:r<S)(hl:(s.tl r).length<=1000000)(x:Nat):
 ∃g cap w3,(Builtin.append_ #[61,61] 61 #[(vt r),.slice (some ⟨V.heap.size,0,none⟩) 1 1]).run prog (V.alloc (.cells #[.int .i64 (x:Int)] 3)).drew=.ok (.slice (some ⟨g,0,none⟩) ((s.tl r).length+1) cap) w3/\AE E R S L {s with tl:=fun k=>if k=r then s.tl r++[x]else s.tl k} (w3.setCell ⟨TB,r,none⟩ (.slice (some ⟨g,0,none⟩) ((s.tl r).length+1) cap)) B C GB TB AB NB DB vg (fun k=>if k=r then(.slice (some ⟨g,0,none⟩) ((s.tl r).length+1) cap)else vt k) vd (fun b=>if b=g then 9+2*r else tag b)/\w3.cell? ⟨TB,r,none⟩=some (vt r)/\w3.frozen? ⟨TB,r,none⟩=false/\Below E V w3/\(∀b,b<V.heap.size->(vt r).ownBlock≠some b->w3.heap[b]? =V.heap[b]?)/\∀b,b<V.heap.size->tag b≠9+2*r->b≠g:=by
 obtain⟨i0,hi0,hz0,hz1,hz2⟩:=info_parts Bu;have hb0:Below V.heap.size V (V.alloc (.cells #[.int .i64 (x:Int)] 3)).drew:=bel (A0 _ _) (B9 _);have h0:=h.below hb0;have hsz:(V.alloc (.cells #[.int .i64 (x:Int)] 3)).drew.heap.size=V.heap.size+1:=by show(V.alloc (.cells #[.int .i64 (x:Int)] 3)).heap.size=_;simp
 obtain⟨g,cap,w3,hr',hown,hgrow,hat,hlt⟩:=run_append_lies (P:=prog) (V.alloc (.cells #[.int .i64 (x:Int)] 3)).drew 61 61 E 3 i0 _ 1 8 underlying61 hi0 hz0 hz1 hz2 rfl dE (vt r) (s.tl r).length (AG (s.tl r)) (h0.ts r hr) ⟨V.heap.size,0,none⟩ 1 1 ([Value.int .i64 (x:Int)]) rfl
  (World.news_of_block (cs:=#[.int .i64 (x:Int)]) (t:=3) (fr:=(0,0)) (heap_alloc_new V _)) Ld dE mL oM h0.lt _ rfl
 exact Mz
end
def AT(s:CF)(p:Nat):CF:=if s.nd p=true then s else{s with nd:=fun x=>if x=p then true else s.nd x,todo:=s.todo++[p]}
def AA(s:CF)(ps:List Nat):CF:=ps.foldl AT s
theorem Fv(s:CF){ps:List Nat}{j:Nat}(hj:j<ps.length):AA s (ps.take (j+1))=AT (AA s (ps.take j)) ps[j]:=by
 unfold AA;rw[List.take_succ_eq_append_getElem hj,List.foldl_append];rfl
theorem Gk(s:CF)(p:Nat):(AT s p).todo.length<=s.todo.length+1:=by unfold AT;split<;>simp
theorem Cb:∀ (ps:List Nat) (s:CF),(AA s ps).todo.length<=s.todo.length+ps.length
 |[],s=>Nat.le_refl _
 |p::ps,s=>by
  have h1:=Cb ps (AT s p);have h2:=Gk s p;show(AA (AT s p) ps).todo.length<=_;simp only[List.length_cons];omega
def Ew(w w':World)(tag tag':Nat->Nat):Prop:=∀b,b<w.heap.size->tag b≠1->tag b≠6->tag b≠7->w'.heap[b]? =w.heap[b]?/\tag' b=tag b
theorem Ew.lt{w w':World}{tag tag':Nat->Nat}(h:Ew w w' tag tag'){b:Nat}(hb:b<w.heap.size)(h1:tag b≠1)(h6:tag b≠6)(h7:tag b≠7):b<w'.heap.size:=by
 have h9:=(h b hb h1 h6 h7).1;rw[Array.getElem?_eq_getElem hb]at h9;exact(Array.getElem?_eq_some_iff.1 h9).1
theorem Cu(E R S L:Nat)(s:CF)(w:World)(B C GB TB AB NB DB:Nat)(vg vt:Nat->Value)(vd:Value)(tag:Nat->Nat)(h:AE E R S L s w B C GB TB AB NB DB vg vt vd tag)(pb cap m:Nat)(po:Option Addr)(ps:List Nat)(hpo:0<ps.length->po=some ⟨pb,0,none⟩)(hps:∀j (hj:j<ps.length),w.cell? ⟨pb,j,none⟩=some (.int .i64 (ps[j]:Int)))(hm:0<ps.length->tag pb=m/\m≠1/\m≠6/\m≠7)(hL:∀p∈ps,p<L)(hl:s.todo.length+ps.length<=1000000)(hLL:L<=1000000):
 Calls prog 27 #[.pointer (some ⟨B,0,none⟩),.slice po ps.length cap] w fun e w'=>e=.returned (.tuple #[])/\Below E w w'/\∃vd' tag',AE E R S L (AA s ps) w' B C GB TB AB NB DB vg vt vd' tag'/\Ew w w' tag tag':=by
 have HH:=A2 h;have HP:=A2 (And.intro hps (And.intro hm hL));obtain⟨n,hn⟩:∃n,ps.length=n:=⟨_,rfl⟩
 rw[hn]at hpo hl ⊢;have HN:=A2 hn;clear h hps hm hL hn;go_enter func27,ntmps27;go_wp2
 go_loopw [8] (fun iv wr=>∃j:Nat,j<=n/\iv=.int .i64 (j:Int)/\Hid (Below E w wr/\∃vd' tag',AE E R S L (AA s (ps.take j)) wr B C GB TB AB NB DB vg vt vd' tag'/\(∀k (hk:k<ps.length),wr.cell? ⟨pb,k,none⟩=some (.int .i64 (ps[k]:Int)))/\(0<ps.length->tag' pb=m/\m≠1/\m≠6/\m≠7)/\Ew w wr tag tag')) (fun iv _=>n-(intOf iv).toNat)
 case atStart=>exact⟨0,Nat.zero_le _,rfl,Below.refl E w,vd,tag,HH.out,HP.out.1,HP.out.2.1,fun b _ _ _ _=>⟨rfl,rfl⟩⟩
 case round=>
  obtain⟨j,hj,rfl,HJ⟩:=hrel;by_cases hlt:j<n
  ·have hpe:=hpo oM;subst hpe;have hjl:j<ps.length:=by have:=HN.out;omega
   obtain⟨hB0,vd',tag',hK,hC,hT,hS⟩:=HJ.out;have HS:=A2 hS;have x0:=hC j hjl;have HCT:=A2 (And.intro hC (hT oM));have HB0:=A2 hB0;have HK:=A2 hK;have hpl:ps[j]<L:=HP.out.2.2 _ (List.getElem_mem hjl);have HX:Hid (AA s (ps.take (j+1))=AT (AA s (ps.take j)) ps[j]):=Fv s hjl;have hlen:(AA s (ps.take j)).todo.length<=1000000:=by
    have h9:=Cb (ps.take j) s;have h8:(ps.take j).length<=n:=by rw[List.length_take];have:=HN.out;omega
    omega
   obtain⟨p,hp⟩:∃p,ps[j]=p:=⟨_,rfl⟩
   rw[hp]at x0 hpl HX;obtain⟨T,hTT⟩:∃T,AA s (ps.take j)=T:=⟨_,rfl⟩
   simp only[hTT]at HK HX hlen;have d5:=HK.out.b5;have d6:=HK.out.b6;have dd:=HK.out.d.cell hpl;have fd:=HK.out.d.frozen p;have i1:(0:Int)<=(j:Int):=oM;have i2:(j:Int)<(n:Int):=oM;have i3:(0:Int)<=(p:Int):=oM;have i4:(p:Int)<(L:Int):=oM;have wi:IntKind.i64.wrap ((j:Int)+1)=((j+1:Nat):Int):=by rw[IntKind.wrap_i64];omega
   clear hB0 hK hC hT hTT hp hS;obtain⟨b,hb⟩:∃b,T.nd p=b:=⟨_,rfl⟩
   rw[hb]at dd;have HBB:=A2 hb;clear hb;cases b with
   |true=>
    go_wp2;go_roundw
    case rel=>
     refine⟨j+1,oM,gN,HB0.out,vd',tag',?_,HCT.out.1,fun _=>HCT.out.2,HS.out⟩;rw[HX.out];unfold AT;rw[if_pos HBB.out];exact HK.out
    case measure=>simp[intOf];omega
   |false=>
    obtain⟨W1,hW1⟩:∃W,wr.setCell ⟨DB,p,none⟩ (.bool true)=W:=⟨_,rfl⟩
    have HK1:=A2 (HK.out.setNd p true);rw[hW1]at HK1;obtain⟨g,cap',w3,hr,hk3,k2,k3,hb3,hoth,hne⟩:=HK1.out.appTodo hlen p;have d6':=HK1.out.b6;have HR:=A2 hr;have lB:B<W1.heap.size:=HK1.out.b.lt;have n1:¬B=W1.heap.size:=oM;have hpw:pb<wr.heap.size:=Ac x0;have hsz:W1.heap.size=wr.heap.size:=by rw[←hW1];simp
    have HT1:Hid ((∀k (hk:k<ps.length),(w3.setCell ⟨B,6,none⟩ (.slice (some ⟨g,0,none⟩) (T.todo.length+1) cap')).cell? ⟨pb,k,none⟩=some (.int .i64 (ps[k]:Int)))/\(if pb=g then 7 else tag' pb)=m):=by
     obtain⟨c1,c2,c3,c4,c5⟩:=HCT.out;refine⟨fun k hk=>?_,?_⟩
     ·rw[World.cell?_of_block (a:=⟨pb,k,none⟩) (w:=wr)]
      ·exact c1 k hk
      ·refine(Below.heap_setCell _ _ _ _ (A9 c2 HK.out.tB c3)).trans ((hoth pb oM (fun e=>(A9 c2 (HK.out.ttd pb e) c5) rfl)).trans ?_);rw[←hW1];exact Below.heap_setCell _ _ _ _ (A9 c2 HK.out.tD c4)
     ·rw[if_neg (hne pb oM (by rw[c2];exact c5))];exact c2
    have HS3:Hid (Ew w (w3.setCell ⟨B,6,none⟩ (.slice (some ⟨g,0,none⟩) (T.todo.length+1) cap')) tag (fun b=>if b=g then 7 else tag' b)):=fun b hb t1 t6 t7=>by
     have hlt:=HS.out.lt hb t1 t6 t7;obtain⟨e1,e2⟩:=HS.out b hb t1 t6 t7;have h6:b≠DB:=fun e=>t6 (by rw[←e2,e];exact HK.out.tD);have h1:b≠B:=fun e=>t1 (by rw[←e2,e];exact HK.out.tB);refine⟨((Below.heap_setCell _ _ _ _ h1).trans ((hoth b oM (fun e=>t7 (by rw[←e2];exact HK.out.ttd b e))).trans ?_)).trans e1,?_⟩
     ·rw[←hW1];exact Below.heap_setCell _ _ _ _ h6
     ·show(if b=g then 7 else tag' b)=tag b;rw[if_neg (hne b oM (by rw[e2];exact t7)),e2]
    have HK3:Hid (AE E R S L (AT T p) (w3.setCell ⟨B,6,none⟩ (.slice (some ⟨g,0,none⟩) (T.todo.length+1) cap')) B C GB TB AB NB DB vg vt (.slice (some ⟨g,0,none⟩) (T.todo.length+1) cap') (fun b=>if b=g then 7 else tag' b)):=by
     unfold AT;rw[if_neg (by rw[HBB.out];decide)];exact hk3
    have HB3:Hid (Below E w (w3.setCell ⟨B,6,none⟩ (.slice (some ⟨g,0,none⟩) (T.todo.length+1) cap'))):=by
     have h9:Below E wr W1:=by rw[←hW1];exact(Below.refl E wr).setCell HK.out.hD _
     exact((HB0.out.trans h9).trans hb3).setCell HK.out.hB _
    have p6:(W1.alloc (.cells #[.int .i64 (p:Int)] 3)).cell? ⟨B,6,none⟩=some vd':=kc (A0 _ _) d6';obtain⟨M,hM⟩:∃M,T.todo.length+1=M:=⟨_,rfl⟩
    simp only[hM]at HR HT1 HK3 HB3 HS3;clear hr hk3 hb3 hoth hne hM hsz hpw lB;go_upto_region 5 with fail;try rw[hW1]
    go_wp2_with(at_builtin;refine B2 rF _ _ _ rF _ _ _ rF rF HR.out ?_);go_roundw
    case rel=>
     refine⟨j+1,oM,gN,HB3.out,(.slice (some ⟨g,0,none⟩) M cap'),(fun b=>if b=g then 7 else tag' b),?_,HT1.out.1,fun _=>⟨HT1.out.2,HCT.out.2.2⟩,HS3.out⟩;rw[HX.out];exact HK3.out
    case measure=>simp[intOf];omega
  ·have e9:¬ (j:Int)<(n:Int):=oM;have hjn:j=ps.length:=by have:=HN.out;omega
   obtain⟨hB0,vd',tag',hK,-,-,hS⟩:=HJ.out;rw[hjn,List.take_length]at hK;have HE:=A2 (And.intro hB0 (And.intro hK hS));clear hlt hjn hB0 hK hS;go_wp2;first|go_end0|(simp only[Exit.inBlock,Exit.then];refine bodyPost_ret (results_none rfl _ _ _) rfl ?_)|refine bodyPost_ret (results_none rfl _ _ _) rfl ?_
   exact⟨rfl,HE.out.1,vd',tag',HE.out.2.1,HE.out.2.2⟩
structure BT(l:List Ab)(s:CF)(q:Sr):Prop where
 nd:s.nd=q.nd
 todo:s.todo=q.todo
 sl:∀r,s.sl r=if q.sr r=true then [] else Dd l r
 tl:∀r,s.tl r=if q.ss r=true then [] else Dw l r
 ar:∀p,p<l.length->s.ar p=Dx l p
 en:∀b e,B7 l b e->s.en b=(enP l b:Int)
section
variable {l : List Ab} {s : CF} {q : Sr}
theorem BT.need1(h:BT l s q)(p:Nat):BT l (AT s p) (need1 q p):=by
 unfold AT Go.Proofs.Ytchbjcldkcfffaa.need1;rw[h.nd];split
 ·exact h
 ·exact⟨by simp only,by simp only[h.todo],h.sl,h.tl,h.ar,h.en⟩
theorem BT.needL:∀ (ps:List Nat) {s:CF} {q:Sr},BT l s q->BT l (AA s ps) (needL q ps)
 |[],_,_,h=>h
 |p::ps,_,_,h=>BT.needL ps (h.need1 p)
theorem Fu(s:CF)(p:Nat):(AT s p).sl=s.sl/\(AT s p).tl=s.tl/\(AT s p).ar=s.ar/\(AT s p).en=s.en:=by unfold AT;split<;>exact⟨rfl,rfl,rfl,rfl⟩
theorem Cy:∀ (ps:List Nat) (s:CF),(AA s ps).sl=s.sl/\(AA s ps).tl=s.tl/\(AA s ps).ar=s.ar/\(AA s ps).en=s.en
 |[],s=>⟨rfl,rfl,rfl,rfl⟩
 |p::ps,s=>by
  obtain⟨h1,h2,h3,h4⟩:=Cy ps (AT s p);obtain⟨g1,g2,g3,g4⟩:=Fu s p;exact⟨h1.trans g1,h2.trans g2,h3.trans g3,h4.trans g4⟩
def JV(s:CF)(r:Nat):CF:={AA s (s.sl r)with sl:=fun k=>if k=r then [] else(AA s (s.sl r)).sl k}
def Is(s:CF)(r:Nat):CF:={AA s (s.tl r)with tl:=fun k=>if k=r then [] else(AA s (s.tl r)).tl k}
theorem BT.goR(h:BT l s q)(r:Nat):BT l (JV s r) (goR l q r):=by
 have h1:=h.needL (s.sl r);obtain⟨g1,g2⟩:=Be (s.sl r) q;obtain⟨e1,e2,e3,e4⟩:=Cy (s.sl r) s;unfold JV Go.Proofs.Ytchbjcldkcfffaa.goR;rw[←h.sl r];refine⟨h1.nd,h1.todo,fun k=>?_,h1.tl,h1.ar,h1.en⟩;show(if k=r then [] else(AA s (s.sl r)).sl k)=if(if k=r then true else q.sr k)=true then [] else Dd l k;by_cases e:k=r
 ·simp[e]
 ·rw[if_neg e,if_neg e,e1];exact h.sl k
theorem BT.goS(h:BT l s q)(r:Nat):BT l (Is s r) (goS l q r):=by
 have h1:=h.needL (s.tl r);obtain⟨g1,g2⟩:=Be (s.tl r) q;obtain⟨e1,e2,e3,e4⟩:=Cy (s.tl r) s;unfold Is Go.Proofs.Ytchbjcldkcfffaa.goS;rw[←h.tl r];refine⟨h1.nd,h1.todo,h1.sl,fun k=>?_,h1.ar,h1.en⟩;show(if k=r then [] else(AA s (s.tl r)).tl k)=if(if k=r then true else q.ss k)=true then [] else Dw l k;by_cases e:k=r
 ·simp[e]
 ·rw[if_neg e,if_neg e,e2];exact h.tl k
end
section
variable {E R S L : Nat} {s : CF} {w : World} {B C GB TB AB NB DB : Nat} {vg vt : Nat -> Value} {vd : Value} {tag tag' : Nat -> Nat}
theorem AE.retag(h:AE E R S L s w B C GB TB AB NB DB vg vt vd tag)(k:∀b,b<w.heap.size->tag' b=tag b):AE E R S L s w B C GB TB AB NB DB vg vt vd tag':=
 {h with
  tB:=(k _ h.b.lt).trans h.tB
  tG:=(k _ h.g.lt).trans h.tG
  tT:=(k _ h.t.lt).trans h.tT
  tA:=(k _ h.a.lt).trans h.tA
  tN:=(k _ h.n.lt).trans h.tN
  tD:=(k _ h.d.lt).trans h.tD
  tgs:=fun r hr q hq=>(k q ((h.gs r hr).lt q hq).2).trans (h.tgs r hr q hq)
  tts:=fun r hr q hq=>(k q ((h.ts r hr).lt q hq).2).trans (h.tts r hr q hq)
  ttd:=fun q hq=>(k q (h.td.lt q hq).2).trans (h.ttd q hq)}
end


theorem Gg(m:Nat)(h:m<=17592186044416)(w:World):(Instr.makeSlice 61 (.int .i64 m) (.int .i64 m)).run prog w=.ok (.slice (some ⟨w.heap.size,0,none⟩) m m) (w.alloc (.cells (madeCells #[.int .i64 0] m) 3)):=
 run_make_row' (P:=prog) 61 3 (.int .i64 0) 8 underlying61 Bu rfl .i64 .i64 m oM oM w
theorem E5{B:Nat}{V:World}{e t:TypeId}{z:Value}{sz by':Nat}(ht:prog.underlying t=some (.slice e))(hi:(prog.info? e).map (fun i=>(i.zero,i.size,i.bytes))=some (some z,sz,by'))(hzs:z.cells.size=sz)(hsz:0<sz){p:Option Addr}{n q:Nat}{xs:List Value}(h:V.ownsRow B e sz (.slice p n q) n xs)(hB:B<=V.heap.size)
 (cs:Array Value) (hcs:cs.size=sz) (h1:∀u∈cs.toList,u.oneCell'=true) (hn:n+1<=maxLen) (hb:(n+1)*by'<=140737488355328) (ty:TypeId):
 ∃g c' w',(Builtin.append_ #[t,t] ty #[.slice p n q,.slice (some ⟨V.heap.size,0,none⟩) 1 1]).run prog (V.alloc (.cells cs e))=.ok (.slice (some ⟨g,0,none⟩) (n+1) c') w'/\Below B V w'/\w'.ownsRow B e sz (.slice (some ⟨g,0,none⟩) (n+1) c') (n+1) (xs++cs.toList)/\(∀b,b<V.heap.size->(Value.slice p n q).ownBlock≠some b->w'.heap[b]? =V.heap[b]?)/\((Value.slice p n q).ownBlock=some g\/V.heap.size<g):=by
 obtain⟨i0,hi0,hz0,hz1,hz2⟩:=info_parts hi;have hb0:Below V.heap.size V (V.alloc (.cells cs e)):=A0 _ _;have hs:(V.alloc (.cells cs e)).heap.size=V.heap.size+1:=sM;have h0:=Ak h hb0;obtain⟨g,cap,w3,hr,hown,hgrow,hat,hlt⟩:=run_append_lies (P:=prog) (V.alloc (.cells cs e)) t ty B e i0 _ sz by' ht hi0 hz0 hz1 hz2 hzs hsz (.slice p n q) n xs h0 ⟨V.heap.size,0,none⟩ 1 1 cs.toList (by simp[hcs])
  (World.news_of_block (cs:=cs) (t:=e) (fr:=(0,0)) (heap_alloc_new V _)) h1 dE hn hb oM _ rfl
 refine⟨g,cap,w3,hr,(hb0.mono hB).grown hgrow oM (fun q e=>(h0.lt q e).1),hown,fun b hb hne=>?_,?_⟩
 ·rw[hgrow.block b oM (Ne.symm hne)];exact hb0.block b hb
 ·rcases hat with e|e
  ·exact .inl e
  ·exact .inr oM
section
variable {c : Cd} {G P : List (List Int)}
theorem Et:(pruneC c).list.length<=c.list.length:=Cz _ _ _ _
theorem GP{K:Nat->Bool}{f:Ab->Ab}{l:List Ab}{k:Nat}(hk:k<l.length)(hK:K k=true):∀j,k<j->j<=l.length->f l[k]∈Ap K f l j:=by
 intro j;induction j with
 |zero=>intro h;omega
 |succ j ih=>
  intro h1 h2;by_cases e:k=j
  ·subst e;rw[BA hk hK];simp
  ·have:=ih oM oM;show _∈Ap K f l j++_;exact List.mem_append.2 (.inl this)
theorem GJ{K:Nat->Bool}{f:Ab->Ab}{l:List Ab}{i:Ab}:∀j,j<=l.length->i∈Ap K f l j->∃k,∃hk:k<l.length,k<j/\K k=true/\i=f l[k]:=by
 intro j;induction j with
 |zero=>intro _ h;cases h
 |succ j ih=>
  intro hj h;have hjl:j<l.length:=oM;cases hK:K j with
  |true=>
   rw[BA hjl hK]at h;rcases List.mem_append.1 h with e|e
   ·obtain⟨k,hk,h1,h2,h3⟩:=ih oM e;exact⟨k,hk,oM,h2,h3⟩
   ·simp only[List.mem_singleton]at e;exact⟨j,hjl,oM,hK,e⟩
  |false=>
   rw[D9 hK]at h;obtain⟨k,hk,h1,h2,h3⟩:=ih oM h;exact⟨k,hk,oM,h2,h3⟩
theorem Do{p:Nat->Bool}:∀N n,n<((List.range N).filter p).length->∃r,r<N/\p r=true/\Ad p r=n:=by
 intro N;induction N with
 |zero=>intro n h;simp at h
 |succ N ih=>
  intro n h;rw[List.range_succ,List.filter_append,List.length_append]at h;by_cases q:n<((List.range N).filter p).length
  ·obtain⟨r,h1,h2,h3⟩:=ih n q;exact⟨r,oM,h2,h3⟩
  ·cases hp:p N with
   |false=>simp[hp]at h;omega
   |true=>
    simp[hp]at h;exact⟨N,oM,hp,by unfold Ad;omega⟩
theorem FA(hc:(Aj c).1=0){n:Nat}(hn:n<(pruneC c).slots.length):∃i∈(pruneC c).list,i.op=32/\i.n=(n:Int):=by
 obtain⟨h1,h2,h3⟩:=Ax.1 hc;have hn':n<((List.range c.slots.length).filter (usS c.list)).length:=by rw[←Cx];exact hn
 obtain⟨m,m1,m2,m3⟩:=Do _ _ hn';obtain⟨k,hk,hN,o,e⟩:=BJ.1 m2;have Cj:∀k (hk:k<c.list.length),Nd c.list k->c.list[k].op=32->c.list[k].n.toNat=m->∃i∈(pruneC c).list,i.op=32/\i.n=(n:Int):=fun k hk hN o e=>by
  refine⟨_,GP (f:=B8 (Ad (usR c.list)) (Ad (usS c.list))) hk (Ao.2 hN) c.list.length hk (Nat.le_refl _),o,?_⟩;show(B8 (Ad (usR c.list)) (Ad (usS c.list)) c.list[k]).n=_;unfold B8;simp only;rw[if_pos (.inl o),e,m3]
 rcases o with o|o
 ·exact Cj k hk hN o e
 ·obtain⟨j,hj,n1,o1,e1⟩:=hN.stored hk o;exact Cj j hj n1 o1 (by rw[←e1];exact e)
end
theorem Di(p:Nat->Bool)(k:Nat):Ad p (k+1)=Ad p k+(if p k=true then 1 else 0):=by
 unfold Ad;rw[List.range_succ,List.filter_append,List.length_append];congr 1;by_cases h:p k=true
 ·simp[h]
 ·simp[h]
theorem BY{p:Nat->Bool}:∀r,(∀s,s<r->p s=true)->Ad p r=r
 |0,_=>rfl
 |r+1,h=>by rw[Di,BY r (fun s hs=>h s oM),if_pos (h r oM)]
section
variable {K : Nat -> Bool} {f : Ab -> Ab} {l : List Ab}
theorem BP:∀j,j<=l.length->(Ap K f l j).length=Ad K j:=by
 intro j;induction j with
 |zero=>intro _;rfl
 |succ j ih=>
  intro hj;have h:=ih oM;rw[Di];cases hK:K j with
  |true=>rw[BA oM hK,List.length_append,h];simp
  |false=>rw[D9 hK,h];simp
theorem Fx{k:Nat}:∀j,k<=j->∃R,Ap K f l j=Ap K f l k++R:=by
 intro j;induction j with
 |zero=>intro h;exact⟨[],by
  have:k=0:=oM
  subst this;simp⟩
 |succ j ih=>
  intro h;by_cases e:k=j+1
  ·subst e;exact⟨[],sM⟩
  ·obtain⟨R,hR⟩:=ih oM;exact⟨R++_,by show Ap K f l j++_=_;rw[hR,List.append_assoc]⟩
theorem Hn{k:Nat}(hk:k<=l.length):(Ap K f l l.length).take (Ad K k)=Ap K f l k:=by
 obtain⟨R,hR⟩:=Fx (K:=K) (f:=f) (l:=l) (k:=k) l.length hk;rw[hR,←BP (f:=f) k hk,List.take_left]
theorem Fw{k:Nat}(hk:k<l.length)(hK:K k=true):∃h:Ad K k<(Ap K f l l.length).length,(Ap K f l l.length)[Ad K k]'h=f l[k]:=by
 obtain⟨R,hR⟩:=Fx (K:=K) (f:=f) (l:=l) (k:=k+1) l.length oM;rw[BA hk hK]at hR;have hc:=BP (K:=K) (f:=f) (l:=l) k oM;have hlen:Ad K k<(Ap K f l l.length).length:=by rw[hR,←hc];simp
 refine⟨hlen,?_⟩;have h2:(Ap K f l l.length)[Ad K k]? =some (f l[k]):=by
  rw[hR,List.append_assoc,←hc,List.getElem?_append_right (Nat.le_refl _)];simp
 rw[List.getElem?_eq_getElem hlen]at h2;simpa using h2
theorem GO:∀j,j<=l.length->(∀k,k<l.length->K k=true)->(∀i∈l,f i=i)->Ap K f l j=l.take j:=by
 intro j;induction j with
 |zero=>intro _ _ _;rfl
 |succ j ih=>
  intro hj hK hf;rw[BA oM (hK j oM),ih oM hK hf,hf _ (List.getElem_mem oM),List.take_succ_eq_append_getElem oM]
end
section
variable {c c' : Cd} {K U : Nat -> Bool} {F : Ab -> Ab} {rho : Nat -> Nat}
theorem Kf(hp:Lt c c' K U F rho):∀j,j<=c.list.length->Ai (Ap K F c.list j)=((Ai (c.list.take j)).filter K).map (Ad K):=by
 intro j;induction j with
 |zero=>intro _;rfl
 |succ j ih=>
  intro hj;have hjl:j<c.list.length:=oM;have h:=ih oM;have hst:=Jl (c:=c) hjl;have hop:=hp.op c.list[j];rw[hst];cases hK:K j with
  |true=>
   rw[BA hjl hK,CN,hop,h,BP j oM];by_cases h1:c.list[j].op=34\/c.list[j].op=36
   ·rw[if_pos h1,if_pos h1,List.filter_cons,if_pos hK];rfl
   ·rw[if_neg h1,if_neg h1];by_cases h2:c.list[j].op=35\/c.list[j].op=37
    ·rw[if_pos h2,if_pos h2];cases hs:Ai (c.list.take j)with
     |nil=>rfl
     |cons b S=>
      have hb:=hp.pair j hjl h2 b L8;rw[List.filter_cons,if_pos (by rw[hb];exact hK)];rfl
    ·rw[if_neg h2,if_neg h2]
  |false=>
   rw[D9 hK,h];by_cases h1:c.list[j].op=34\/c.list[j].op=36
   ·rw[if_pos h1,List.filter_cons,if_neg (by rw[hK];simp)]
   ·rw[if_neg h1];by_cases h2:c.list[j].op=35\/c.list[j].op=37
    ·rw[if_pos h2];cases hs:Ai (c.list.take j)with
     |nil=>rfl
     |cons b S=>
      have hb:=hp.pair j hjl h2 b L8;rw[List.filter_cons,if_neg (by rw[hb,hK];simp)];rfl
    ·rw[if_neg h2]
end
section
variable {c : Cd}
theorem Fl(h:An c ⟨[],[]⟩ c.list=true){k:Nat}(n:Nd c.list k):k<c.list.length->Nd (pruneC c).list (Ad (ndK c.list) k):=by
 have hp:=CL h;have hx:=Gm h;have at_:∀ {k:Nat} (hk:k<c.list.length),Nd c.list k->∃hl:Ad (ndK c.list) k<(pruneC c).list.length,(pruneC c).list[Ad (ndK c.list) k]'hl=B8 (Ad (usR c.list)) (Ad (usS c.list)) c.list[k]:=fun hk n=>Fw hk (Ao.2 n);have stk:∀ {k:Nat} (hk:k<c.list.length),Ai ((pruneC c).list.take (Ad (ndK c.list) k))=((Ai (c.list.take k)).filter (ndK c.list)).map (Ad (ndK c.list)):=fun hk=>by
  show Ai ((Ap _ _ c.list c.list.length).take _)=_;rw[Hn (Nat.le_of_lt hk)];exact Kf hp _ (Nat.le_of_lt hk)
 induction n with
 |out hk o=>
  intro _;obtain⟨hl,e⟩:=at_ hk (.out hk o);exact .out hl (by rw[e];exact o)
 |@set k j hk hj n r hr hs e ih=>
  intro _;obtain⟨hl,e1⟩:=at_ hk n;obtain⟨hl2,e2⟩:=at_ hj (.set hk hj n r hr hs e);refine .set hl hl2 (ih hk) ((Ad (usR c.list) r.toNat:Nat):Int) ?_ ?_ ?_
  ·rw[e1];have h9:=hp.rd c.list[k];show _∈A8 (B8 _ _ c.list[k]) (A4 c.list[k].op);rw[h9];exact List.mem_map.2 ⟨r,hr,rfl⟩
  ·rw[e2];exact hs
  ·rw[e2,hp.d _ hs,e,Int.toNat_natCast]
 |@store k j hk hj n o1 o2 e ih=>
  intro _;obtain⟨hl,e1⟩:=at_ hk n;obtain⟨hl2,e2⟩:=at_ hj (.store hk hj n o1 o2 e);exact .store hl hl2 (ih hk) (by rw[e1];exact o1) (by rw[e2];exact o2) (by rw[e1,e2,hx.fs _ (.inl o1),hx.fs _ (.inr o2),e])
 |@beg k b hk n hb ih=>
  intro hbl;obtain⟨hl,e1⟩:=at_ hk n;have nb:Nd c.list b:=.beg hk n hb;refine .beg hl (ih hk) ?_;rw[e1,stk hk];show _∈(if c.list[k].op=35\/c.list[k].op=37 then _ else _);by_cases h2:c.list[k].op=35\/c.list[k].op=37
  ·rw[if_pos h2]at hb ⊢;cases hs:Ai (c.list.take k)with
   |nil=>rw[hs]at hb;cases hb
   |cons b0 S=>
    rw[hs]at hb;simp only[List.tail_cons]at hb;have h0:=hp.pair k hk h2 b0 L8;rw[List.filter_cons,if_pos (by rw[h0];exact Ao.2 n),List.map_cons,List.tail_cons];exact List.mem_map.2 ⟨b,List.mem_filter.2 ⟨hb,Ao.2 nb⟩,rfl⟩
  ·rw[if_neg h2]at hb ⊢;exact List.mem_map.2 ⟨b,List.mem_filter.2 ⟨hb,Ao.2 nb⟩,rfl⟩
 |@fin k b hk n hf hb ih=>
  intro _;have nk:Nd c.list k:=.fin hk n hf hb;obtain⟨hl,e1⟩:=at_ hk nk;obtain⟨hbl,-,-⟩:=Bq c.list k (Nat.le_of_lt hk) b (List.mem_of_mem_head? hb);refine .fin hl (ih hbl) (by rw[e1];exact hf) ?_;rw[stk hk];cases hs:Ai (c.list.take k)with
  |nil=>rw[hs]at hb;cases hb
  |cons b0 S=>
   rw[hs]at hb;simp only[List.head?_cons,Option.some.injEq]at hb;subst hb;rw[List.filter_cons,if_pos (Ao.2 n)];rfl
 |@begE k b hk n hf hb ih=>
  intro _;obtain⟨hl,e1⟩:=at_ hk n;refine .begE hl (ih hk) (by rw[e1];exact hf) ?_;rw[stk hk];cases hs:Ai (c.list.take k)with
  |nil=>rw[hs]at hb;cases hb
  |cons b0 S=>
   rw[hs]at hb;simp only[List.head?_cons,Option.some.injEq]at hb;subst hb;rw[List.filter_cons,if_pos (Ao.2 (.begE hk n hf L8))];rfl
theorem Ig(h:An c ⟨[],[]⟩ c.list=true){p:Nat}(hp:p<(pruneC c).list.length):Nd (pruneC c).list p:=by
 have hl:(pruneC c).list.length=Ad (ndK c.list) c.list.length:=BP _ (Nat.le_refl _);rw[hl]at hp;obtain⟨k,h1,h2,h3⟩:=Do _ _ hp;rw[←h3];exact Fl h (Ao.1 h2) h1
theorem DL{α:Type}{p:Nat->Bool}{l:List α}(h:∀r,r<l.length->p r=true):Aq p l=l:=by
 apply List.ext_getElem?;intro t;by_cases ht:t<l.length
 ·have h9:=EY (p:=p) ht (h t ht);rw[BY t (fun s hs=>h s oM)]at h9;exact h9
 ·rw[List.getElem?_eq_none (by have:=D8 p l;omega),List.getElem?_eq_none oM]
theorem Fz(hc:(Aj c).1=0):pruneC (pruneC c)=pruneC c:=by
 obtain⟨h1,h2,h3⟩:=Ax.1 hc;obtain⟨-,d2,-⟩:=Ax.1 (Eb hc);have hr:∀r,r<(pruneC c).regs.length->usR (pruneC c).list r=true:=fun r hr=>by
  have hr':r<((List.range c.regs.length).filter (usR c.list)).length:=by rw[←Cx];exact hr
  obtain⟨m,m1,m2,m3⟩:=Do _ _ hr';obtain⟨k,hk,n,hs,e⟩:=AW.1 m2;obtain⟨hl,e1⟩:∃h:Ad (ndK c.list) k<(pruneC c).list.length,(pruneC c).list[Ad (ndK c.list) k]'h=B8 (Ad (usR c.list)) (Ad (usS c.list)) c.list[k]:=Fw hk (Ao.2 n);refine AW.2 ⟨Ad (ndK c.list) k,hl,Fl h2 n hk,?_,?_⟩
  ·rw[e1];exact hs
  ·rw[e1,(CL h2).d _ hs,e,m3]
 have hsl:∀r,r<(pruneC c).slots.length->usS (pruneC c).list r=true:=fun r hr=>by
  obtain⟨i,hi,o,e⟩:=FA hc hr;obtain⟨p,hp,rfl⟩:=List.mem_iff_getElem.1 hi;exact BJ.2 ⟨p,hp,Ig h2 hp,.inl o,by rw[e];simp⟩
 have hi:∀i∈(pruneC c).list,B8 (Ad (usR (pruneC c).list)) (Ad (usS (pruneC c).list)) i=i:=fun i hi=>by
  obtain⟨p,hp,rfl⟩:=List.mem_iff_getElem.1 hi;have t:=AV d2 hp;obtain⟨t1,t2,-,-⟩:=Ar t;have Cj:∀x:Int,0<=x->x<((pruneC c).regs.length:Int)->((Ad (usR (pruneC c).list) x.toNat:Nat):Int)=x:=fun x x0 x1=>by
   rw[BY x.toNat (fun s hs=>hr s oM),Int.toNat_of_nonneg x0]
  unfold B8;have e1:(if(A4 (pruneC c).list[p].op).d=0 then(pruneC c).list[p].d else((Ad (usR (pruneC c).list) (pruneC c).list[p].d.toNat:Nat):Int))=(pruneC c).list[p].d:=by
   by_cases q:(A4 (pruneC c).list[p].op).d=0
   ·rw[if_pos q]
   ·rw[if_neg q];obtain⟨x0,x1⟩:=Ag (C4 t2) q;exact Cj _ x0 x1
  have e2:(if(A4 (pruneC c).list[p].op).a=0 then(pruneC c).list[p].a else((Ad (usR (pruneC c).list) (pruneC c).list[p].a.toNat:Nat):Int))=(pruneC c).list[p].a:=by
   by_cases q:(A4 (pruneC c).list[p].op).a=0
   ·rw[if_pos q]
   ·rw[if_neg q];obtain⟨x0,x1⟩:=Ag (C3 t2) q;exact Cj _ x0 x1
  have e3:(if(A4 (pruneC c).list[p].op).b=0 then(pruneC c).list[p].b else((Ad (usR (pruneC c).list) (pruneC c).list[p].b.toNat:Nat):Int))=(pruneC c).list[p].b:=by
   by_cases q:(A4 (pruneC c).list[p].op).b=0
   ·rw[if_pos q]
   ·rw[if_neg q];obtain⟨x0,x1⟩:=Ag (CG t2) q;exact Cj _ x0 x1
  have e4:(if(A4 (pruneC c).list[p].op).c=0 then(pruneC c).list[p].c else((Ad (usR (pruneC c).list) (pruneC c).list[p].c.toNat:Nat):Int))=(pruneC c).list[p].c:=by
   by_cases q:(A4 (pruneC c).list[p].op).c=0
   ·rw[if_pos q]
   ·rw[if_neg q];obtain⟨x0,x1⟩:=Ag (CH t2) q;exact Cj _ x0 x1
  have e5:(if(pruneC c).list[p].op=32\/(pruneC c).list[p].op=33 then((Ad (usS (pruneC c).list) (pruneC c).list[p].n.toNat:Nat):Int)else(pruneC c).list[p].n)=(pruneC c).list[p].n:=by
   by_cases q:(pruneC c).list[p].op=32\/(pruneC c).list[p].op=33
   ·rw[if_pos q];obtain⟨x0,x1⟩:=Dg t q;rw[BY _ (fun s hs=>hsl s oM),Int.toNat_of_nonneg x0]
   ·rw[if_neg q]
  rw[e1,e2,e3,e4,e5]
 have hK:∀k,k<(pruneC c).list.length->ndK (pruneC c).list k=true:=fun k hk=>Ao.2 (Ig h2 hk);have e1:(pruneC (pruneC c)).regs=(pruneC c).regs:=DL hr;have e2:(pruneC (pruneC c)).slots=(pruneC c).slots:=DL hsl;have e3:(pruneC (pruneC c)).list=(pruneC c).list:=by
  show Ap _ _ (pruneC c).list (pruneC c).list.length=_;rw[GO _ (Nat.le_refl _) hK hi,List.take_length]
 exact MO
end
end Go.Proofs.Ytchbjcldkcfffaa
