import Derived.Test.YtnbccaicijcklaaTks3
import Derived.Test.YtnbccaicijcklaaTks4
import Derived.Test.YtnbccaicijcklaaTks1
namespace Go.Proofs.Ytnbccaicijcklaa
open Go.RowKit Go.Proofs.Try
set_option linter.all false
set_option maxRecDepth 100000
set_option maxHeartbeats 16000000
theorem Rs(c:Int)(h0:0<=c)(h1:c<=255):(0<=Lib.indexByte (⟨#[95,46,47,45]⟩:ByteArray).data.toList c.toNat.toUInt8)↔(c=95\/c=46\/c=47\/c=45):=by
 obtain⟨k,rfl⟩:∃k:Nat,c=k:=⟨c.toNat,oM⟩
 have hk:k<256:=oM;have Cc:∀k:Fin 256,(0<=Lib.indexByte [95,46,47,45] k.val.toUInt8)↔((k.val:Int)=95\/(k.val:Int)=46\/(k.val:Int)=47\/(k.val:Int)=45):=by decide+kernel
 exact Cc ⟨k,hk⟩
theorem J1(c:Int)(h0:0<=c)(h1:c<=255)(w:World):
 Calls prog 82 #[.int .u8 c] w fun e w'=>e=.returned (.bool (ES c))/\w'=w:=by
 have hX:=Rs c h0 h1;have K:=fun w=>DR ⟨#[95,46,47,45]⟩ c w;obtain⟨x,hx⟩:∃x,Lib.indexByte (⟨#[95,46,47,45]⟩:ByteArray).data.toList c.toNat.toUInt8=x:=⟨_,rfl⟩
 rw[hx]at hX;simp only[hx]at K;have HK:Hid (∀w,Calls prog 84 #[.string ⟨#[95,46,47,45]⟩,.int .u8 c] w fun e w'=>e=.returned (.int .i64 x)/\w'=w):=K;clear K hx;have HP:Hid (∀b:Bool,(b=true↔(97<=c/\c<=122\/65<=c/\c<=90\/48<=c/\c<=57\/0<=x))->b=ES c):=fun b hb=>by
  rw[Bool.eq_iff_iff,hb];unfold ES;simp only[Bool.or_eq_true,Bool.and_eq_true,decide_eq_true_eq,beq_iff_eq];omega
 have hcl:(c<48)\/(48<=c/\c<=57)\/(57<c/\c<65)\/(65<=c/\c<=90)\/(90<c/\c<97)\/(97<=c/\c<=122)\/(122<c):=oM;rcases hcl with h|h|h|h|h|h|h
 ·have a1:¬ (65:Int)<=c:=oM;have a2:¬ (97:Int)<=c:=oM;have a3:¬ (48:Int)<=c:=oM;by_cases hx0:0<=x
  all_goals
   exact Po
 ·have a1:¬ (65:Int)<=c:=oM;have a2:¬ (97:Int)<=c:=oM;have a3:(48:Int)<=c:=oM;have a4:c<=(57:Int):=oM;exact Po
 ·have a1:¬ (65:Int)<=c:=oM;have a2:¬ (97:Int)<=c:=oM;have a3:(48:Int)<=c:=oM;have a4:¬c<=(57:Int):=oM;by_cases hx0:0<=x
  all_goals
   exact Po
 ·have a1:(65:Int)<=c:=oM;have a2:¬ (97:Int)<=c:=oM;have a3:(48:Int)<=c:=oM;have a4:¬c<=(57:Int):=oM;have a5:c<=(90:Int):=oM;exact Po
 ·have a1:(65:Int)<=c:=oM;have a2:¬ (97:Int)<=c:=oM;have a3:(48:Int)<=c:=oM;have a4:¬c<=(57:Int):=oM;have a5:¬c<=(90:Int):=oM;by_cases hx0:0<=x
  all_goals
   exact Po
 ·have a1:(65:Int)<=c:=oM;have a2:(97:Int)<=c:=oM;have a3:(48:Int)<=c:=oM;have a4:¬c<=(57:Int):=oM;have a5:¬c<=(90:Int):=oM;have a6:c<=(122:Int):=oM;exact Po
 ·have a1:(65:Int)<=c:=oM;have a2:(97:Int)<=c:=oM;have a3:(48:Int)<=c:=oM;have a4:¬c<=(57:Int):=oM;have a5:¬c<=(90:Int):=oM;have a6:¬c<=(122:Int):=oM;by_cases hx0:0<=x
  all_goals
   exact Po
theorem J3(s:ByteArray)(hs:s.size<=140737488351232)(w:World):
 Calls prog 72 #[.string s] w fun e w'=>e=.returned (.bool (Bg s))/\w'=w:=by
 by_cases h0:s.size=0
 ·have he:s.toList.isEmpty=true:=by rw[Cn];simp[h0]
  have he2:(s.toList==[])=true:=by rw[DJ];simp[h0]
  have hf:Bg s=false:=by unfold Bg;simp[h0]
  rw[hf];go_enter func72,ntmps72;go_wp2
  all_goals(go_ret;exact⟨rfl,rfl⟩)
 ·have he:s.toList.isEmpty=false:=by rw[Cn];simp[h0]
  have he2:(s.toList==[])=false:=by rw[DJ];simp[h0]
  by_cases h64:s.size<=64
  ·have h64':¬ ((64:Int)<(s.size:Int)):=oM;go_enter func72,ntmps72;go_wp2
   go_loopw [13] (fun iv wr=>wr=w/\∃j:Nat,j<=s.size/\iv=.int .i64 j/\Hid (∀i (h:i<s.size),i<j->ES (s[i].toNat:Int)=true)) (fun iv _=>s.size-(intOf iv).toNat)
   case atStart=>exact⟨rfl,0,Nat.zero_le _,rfl,fun i h hi=>absurd hi (Nat.not_lt_zero _)⟩
   case round=>
    obtain⟨rfl,j,hj,rfl,hp⟩:=hrel;by_cases hlt:j<s.size
    ·have i1:(0:Int)<=(j:Int):=oM;have i2:(j:Int)<(s.size:Int):=oM;have hc2:(s[j].toNat:Int)<=255:=by have:=s[j].toNat_lt;omega
     have K:=fun w=>J1 (s[j].toNat:Int) oM hc2 w;have NX:Hid (ES (s[j].toNat:Int)=true->∀i (h:i<s.size),i<j+1->ES (s[i].toNat:Int)=true):=fun hq i h hi=>by
      exact Pp
     have NB:Hid (ES (s[j].toNat:Int)=false->Bg s=false):=fun h=>Gx hlt h;obtain⟨N,hN⟩:∃N,ES (s[j].toNat:Int)=N:=⟨_,rfl⟩
     rw[hN]at NX NB;simp only[hN]at K;have HK:Hid (∀w,Calls prog 82 #[.int .u8 (s[j].toNat:Int)] w fun e w'=>e=.returned (.bool N)/\w'=w):=K;clear K hN hp hc2;cases N
     ·go_wp2_with(go_at_call 82;refine(HK.out _).mono ?_;rintro e w1 ⟨rfl,rfl⟩);go_ret;exact⟨A8 (NB.out sM).symm,fT⟩
     ·go_wp2_with(go_at_call 82;refine(HK.out _).mono ?_;rintro e w1 ⟨rfl,rfl⟩);go_roundw
      case rel=>exact⟨fT,j+1,oM,gN,NX.out sM⟩
      case measure=>simp[intOf];omega
    ·exact SC
  ·have h64':(64:Int)<(s.size:Int):=oM;have hf:Bg s=false:=by unfold Bg;simp[h64]
   rw[hf];go_enter func72,ntmps72;go_wp2
   all_goals(go_ret;exact⟨rfl,rfl⟩)
theorem FQ(p:Bt)(hs:p.name.size<=140737488351232)(w:World):
 Calls prog 53 #[pv p] w fun e w'=>e=.returned (.bool (!Bl p))/\Below w.heap.size w w':=by
 rw[GZ];obtain⟨X,K,L⟩:=p;unfold pv;have KN:=J3 X hs;simp only;obtain⟨N,hN⟩:∃N,Bg X=N:=⟨_,rfl⟩
 rw[hN]at KN ⊢;have HK:Hid (∀w,Calls prog 72 #[.string X] w fun e w'=>e=.returned (.bool N)/\w'=w):=KN;clear KN hN;have hk:((K==1)=true/\(K==2)=false)\/((K==1)=false/\(K==2)=true)\/((K==1)=false/\(K==2)=false):=by
  exact Sv
 have hL:(1<=L/\L<=4096)\/(¬1<=L/\L<=4096)\/(1<=L/\¬L<=4096):=oM;cases N<;>rcases hk with⟨h1,h2⟩|⟨h1,h2⟩|⟨h1,h2⟩<;>rcases hL with⟨h3,h4⟩|⟨h3,h4⟩|⟨h3,h4⟩
 all_goals
  go_enter func53,ntmps53;go_wp2_with(go_at_call 72;refine(HK.out _).mono ?_;rintro e w1 ⟨rfl,rfl⟩);go_ret;exact⟨A8 (by simp[h1,h2,h3,h4]),A0 _ _⟩
theorem Hi(p:Bt)(hs:p.name.size<=140737488351232)(w:World):
 Calls prog 73 #[pv p] w fun e w'=>e=.returned (.int .i64 (Ej p))/\Below w.heap.size w w':=by
 have KM:=FQ p hs;have hm:Bl p=true->1<=p.len/\p.len<=4096:=fun h=>by rw[GZ]at h;simp at h;exact h.2
 have hn:Ej p=if Bl p then(if p.kind==2 then 2*p.len else p.len)else 0:=rfl;rw[hn];clear hn;obtain⟨N,hN⟩:∃N,Bl p=N:=⟨_,rfl⟩
 rw[hN]at KM hm ⊢;clear hN hs;obtain⟨X,K,L⟩:=p;unfold pv at KM ⊢;simp only at hm KM ⊢;have HK:Hid (∀w,Calls prog 53 #[.agg #[.string X,.int .i64 K,.int .i64 L]] w fun e w'=>e=.returned (.bool (!N))/\Below w.heap.size w w'):=KM;clear KM;cases N
 ·clear hm;go_enter func73,ntmps73;go_wp2_with(go_at_call 53;refine(HK.out _).mono ?_;rintro e w1 ⟨rfl,hb1⟩);exact QG
 ·have hL:=hm rfl;clear hm;cases h2:(K==2)
  ·go_enter func73,ntmps73;go_wp2_with(go_at_call 53;refine(HK.out _).mono ?_;rintro e w1 ⟨rfl,hb1⟩;have c1:w1.cell? ⟨w.heap.size,1,none⟩=some (.int .i64 K):=(hb1.cell sM).trans sG;have c2:w1.cell? ⟨w.heap.size,2,none⟩=some (.int .i64 L):=(hb1.cell sM).trans sG);exact QG
  ·have hw:IntKind.i64.wrap (2*L)=2*L:=by rw[IntKind.wrap_i64];omega
   go_enter func73,ntmps73;go_wp2_with(go_at_call 53;refine(HK.out _).mono ?_;rintro e w1 ⟨rfl,hb1⟩;have c1:w1.cell? ⟨w.heap.size,1,none⟩=some (.int .i64 K):=(hb1.cell sM).trans sG;have c2:w1.cell? ⟨w.heap.size,2,none⟩=some (.int .i64 L):=(hb1.cell sM).trans sG);go_ret;exact⟨Dk sM,bel (A0 _ _) hb1⟩
theorem Js(v:Value)(l:List Bt)(hl:l.length<=140737488351232)(hM:∀p∈l,p.name.size<=140737488351232)(w:World)(hr:Rd w v l):
 Calls prog 55 #[v] w fun e w'=>e=.returned (.int .i64 (BO l))/\Below w.heap.size w w':=by
 obtain⟨p,c,rfl,hr⟩:=hr;obtain⟨n,hn⟩:∃n,l.length=n:=⟨_,rfl⟩
 rw[hn]at hl ⊢;have HN:Hid (l.length=n):=hn;have HR:Hid (LO w p l):=hr;have HM:Hid (∀p∈l,p.name.size<=140737488351232):=hM;clear hn hr hM;go_enter func55,ntmps55;go_wp2
 go_loopw [3,8] (fun tv iv wr=>Below w.heap.size w wr/\∃j:Nat,j<=n/\iv=.int .i64 j/\tv=.int .i64 (BO (l.take j))) (fun _ iv _=>n-(intOf iv).toNat)
 case atStart=>exact⟨C9 w,0,Nat.zero_le _,rfl,rfl⟩
 case round=>
  obtain⟨hb,j,hj,rfl,rfl⟩:=hrel;by_cases hlt:j<n
  ·have hll:j<l.length:=by rw[HN.out];exact hlt
   obtain⟨b,o,rfl,hx⟩:=HR.out.at hll;obtain⟨x0,x1,x2⟩:=hx.below hb;have i1:(0:Int)<=(j:Int):=oM;have i2:(j:Int)<(n:Int):=oM;have KN:=Hi l[j] (HM.out _ (List.getElem_mem hll));unfold pv at KN;have HK:Hid (∀w,Calls prog 73 #[.agg #[.string l[j].name,.int .i64 l[j].kind,.int .i64 l[j].len]] w fun e w'=>e=.returned (.int .i64 (Ej l[j]))/\Below w.heap.size w w'):=KN;have ht:BO (l.take (j+1))=BO (l.take j)+Ej l[j]:=by rw[Fc hll,ID]
   have hb1:=Ev (l.take j);have hb2:=Ek l[j];rw[List.length_take,HN.out,Nat.min_eq_left hj]at hb1;obtain⟨T,hT⟩:∃T,BO (l.take j)=T:=⟨_,rfl⟩
   obtain⟨U,hU⟩:∃U,Ej l[j]=U:=⟨_,rfl⟩
   rw[hT,hU]at ht;rw[hT]at hb1 ⊢;rw[hU]at hb2 HK;have HT:Hid (BO (l.take (j+1))=T+U):=ht;have hw1:IntKind.i64.wrap (T+U)=T+U:=by rw[IntKind.wrap_i64];omega
   clear KN ht hT hU hx;go_wp2_with(go_at_call 73;refine(HK.out _).mono ?_;rintro e w1 ⟨rfl,hb3⟩);go_roundw
   case rel=>exact⟨bel (bel hb gG) hb3,j+1,oM,gN,by rw[HT.out]⟩
   case measure=>simp[intOf];omega
  ·exact St
end Go.Proofs.Ytnbccaicijcklaa
