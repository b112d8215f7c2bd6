import Derived.Test.YtjlpkjblkllfbaaGreatDoorOwn2
import Derived.Test.YtjlpkjblkllfbaaGreatDoorOwn3
import Derived.Test.YtjlpkjblkllfbaaGreatDoorOwn1
namespace Go.Proofs.YtjlpkjblkllfbaaGreatDoor
open Go.RowKit Go.Proofs.Tryz
set_option linter.all false
set_option maxRecDepth 100000
set_option maxHeartbeats 16000000
theorem Xf(c:Int)(h0:0<=c)(h1:c<=255):(0<=Lib.indexByte (⟨#[95,46,47,45]⟩:ByteArray).data.toList c.toNat.toUInt8)↔(c=95\/c=46\/c=47\/c=45):=by
 obtain⟨k,rfl⟩:∃k:Nat,c=k:=⟨c.toNat,oM⟩
 have hk:k<256:=oM;have EW:∀k:Fin 256,(0<=Lib.indexByte [95,46,47,45] k.val.toUInt8)↔((k.val:Int)=95\/(k.val:Int)=46\/(k.val:Int)=47\/(k.val:Int)=45):=by decide+kernel
 exact EW ⟨k,hk⟩
theorem Ll(c:Int)(h0:0<=c)(h1:c<=255)(w:World):
 Calls prog 143 #[.int .u8 c] w fun e w'=>e=.returned (.bool (EJ c))/\w'=w:=by
 have hX:=Xf c h0 h1;have K:=fun w=>Ej ⟨#[95,46,47,45]⟩ c w;obtain⟨x,hx⟩:=gA (Lib.indexByte (⟨#[95,46,47,45]⟩:ByteArray).data.toList c.toNat.toUInt8)
 rw[hx]at hX;simp only[hx]at K;have HK:Hid (∀w,Calls prog 151 #[.string ⟨#[95,46,47,45]⟩,.int .u8 c] w fun e w'=>e=.returned (.int .i64 x)/\w'=w):=K;clear K hx;have HP:Hid (∀b:Bool,(b=true↔(97<=c/\c<=122\/65<=c/\c<=90\/48<=c/\c<=57\/0<=x))->b=EJ c):=fun b hb=>by
  rw[Bool.eq_iff_iff,hb];unfold EJ;simp only[Bool.or_eq_true,Bool.and_eq_true,decide_eq_true_eq,beq_iff_eq];omega
 have hcl:(c<48)\/(48<=c/\c<=57)\/(57<c/\c<65)\/(65<=c/\c<=90)\/(90<c/\c<97)\/(97<=c/\c<=122)\/(122<c):=oM;rcases hcl with h|h|h|h|h|h|h
 .have a1:¬ (65:Int)<=c:=oM;have a2:¬ (97:Int)<=c:=oM;have a3:¬ (48:Int)<=c:=oM;by_cases hx0:0<=x
  all_goals
   exact TZ
 .have a1:¬ (65:Int)<=c:=oM;have a2:¬ (97:Int)<=c:=oM;have a3:(48:Int)<=c:=oM;have a4:c<=(57:Int):=oM;exact TZ
 .have a1:¬ (65:Int)<=c:=oM;have a2:¬ (97:Int)<=c:=oM;have a3:(48:Int)<=c:=oM;have a4:¬c<=(57:Int):=oM;by_cases hx0:0<=x
  all_goals
   exact TZ
 .have a1:(65:Int)<=c:=oM;have a2:¬ (97:Int)<=c:=oM;have a3:(48:Int)<=c:=oM;have a4:¬c<=(57:Int):=oM;have a5:c<=(90:Int):=oM;exact TZ
 .have a1:(65:Int)<=c:=oM;have a2:¬ (97:Int)<=c:=oM;have a3:(48:Int)<=c:=oM;have a4:¬c<=(57:Int):=oM;have a5:¬c<=(90:Int):=oM;by_cases hx0:0<=x
  all_goals
   exact TZ
 .have a1:(65:Int)<=c:=oM;have a2:(97:Int)<=c:=oM;have a3:(48:Int)<=c:=oM;have a4:¬c<=(57:Int):=oM;have a5:¬c<=(90:Int):=oM;have a6:c<=(122:Int):=oM;exact TZ
 .have a1:(65:Int)<=c:=oM;have a2:(97:Int)<=c:=oM;have a3:(48:Int)<=c:=oM;have a4:¬c<=(57:Int):=oM;have a5:¬c<=(90:Int):=oM;have a6:¬c<=(122:Int):=oM;by_cases hx0:0<=x
  all_goals
   exact TZ
theorem Lp(s:ByteArray)(hs:s.size<=140737488351232)(w:World):
 Calls prog 125 #[.string s] w fun e w'=>e=.returned (.bool (B1 s))/\w'=w:=by
 by_cases h0:s.size=0
 .have he:s.toList.isEmpty=true:=by rw[CK];simp[h0]
  have he2:(s.toList==[])=true:=by rw[Ee];simp[h0]
  have hf:B1 s=false:=by unfold B1;simp[h0]
  rw[hf];go_enter func125,ntmps125;go_wp2
  all_goals(go_ret;exact⟨rfl,rfl⟩)
 .have he:s.toList.isEmpty=false:=by rw[CK];simp[h0]
  have he2:(s.toList==[])=false:=by rw[Ee];simp[h0]
  by_cases h64:s.size<=64
  .have h64':¬ ((64:Int)<(s.size:Int)):=oM;go_enter func125,ntmps125;go_wp2
   go_loopw [13] (fun iv wr=>wr=w/\∃j:Nat,j<=s.size/\iv=.int .i64 j/\Hid (∀i (h:i<s.size),i<j->EJ (s[i].toNat:Int)=true)) (fun iv _=>s.size-(intOf iv).toNat)
   case atStart=>exact⟨rfl,0,gJ _,rfl,fun i h hi=>absurd hi (Nat.not_lt_zero _)⟩
   case round=>
    obtain⟨rfl,j,hj,rfl,hp⟩:=hrel;by_cases hlt:j<s.size
    .have i1:(0:Int)<=(j:Int):=oM;have i2:(j:Int)<(s.size:Int):=oM;have hc2:(s[j].toNat:Int)<=255:=by have:=s[j].toNat_lt;omega
     have K:=fun w=>Ll (s[j].toNat:Int) oM hc2 w;have NX:Hid (EJ (s[j].toNat:Int)=true->∀i (h:i<s.size),i<j+1->EJ (s[i].toNat:Int)=true):=fun hq i h hi=>by
      exact U1
     have NB:Hid (EJ (s[j].toNat:Int)=false->B1 s=false):=fun h=>Io hlt h;obtain⟨N,hN⟩:=gA (EJ (s[j].toNat:Int))
     rw[hN]at NX NB;simp only[hN]at K;have HK:Hid (∀w,Calls prog 143 #[.int .u8 (s[j].toNat:Int)] w fun e w'=>e=.returned (.bool N)/\w'=w):=K;clear K hN hp hc2;cases N
     .go_wp2_with(go_at_call 143;refine(HK.out _).mono ?_;rintro e w1 ⟨rfl,rfl⟩);go_ret;exact⟨A8 (NB.out sM).symm,fT⟩
     .go_wp2_with(go_at_call 143;refine(HK.out _).mono ?_;rintro e w1 ⟨rfl,rfl⟩);go_roundw
      case rel=>exact⟨fT,j+1,oM,gN,NX.out sM⟩
      case measure=>simp[intOf];omega
    .exact Y7
  .have h64':(64:Int)<(s.size:Int):=oM;have hf:B1 s=false:=by unfold B1;simp[h64]
   rw[hf];go_enter func125,ntmps125;go_wp2
   all_goals(go_ret;exact⟨rfl,rfl⟩)
theorem GS(p:Bc)(hs:p.name.size<=140737488351232)(w:World):
 Calls prog 88 #[pv p] w fun e w'=>e=.returned (.bool (!AK p))/\Below w.heap.size w w':=by
 rw[J3];obtain⟨X,K,L⟩:=p;unfold pv;have KN:=Lp X hs;simp only;obtain⟨N,hN⟩:=gA (B1 X)
 rw[hN]at KN |-;have HK:Hid (∀w,Calls prog 125 #[.string X] w fun e w'=>e=.returned (.bool N)/\w'=w):=KN;clear KN hN;have hk:((K==1)=true/\(K==2)=false)\/((K==1)=false/\(K==2)=true)\/((K==1)=false/\(K==2)=false):=by
  exact Y4
 have hL:(1<=L/\L<=4096)\/(¬1<=L/\L<=4096)\/(1<=L/\¬L<=4096):=oM;cases N<;>rcases hk with⟨h1,h2⟩|⟨h1,h2⟩|⟨h1,h2⟩<;>rcases hL with⟨h3,h4⟩|⟨h3,h4⟩|⟨h3,h4⟩
 all_goals
  go_enter func88,ntmps88;go_wp2_with(go_at_call 125;refine(HK.out _).mono ?_;rintro e w1 ⟨rfl,rfl⟩);go_ret;exact⟨A8 (by simp[h1,h2,h3,h4]),A2 _ _⟩
theorem Jn(p:Bc)(hs:p.name.size<=140737488351232)(w:World):
 Calls prog 126 #[pv p] w fun e w'=>e=.returned (.int .i64 (EC p))/\Below w.heap.size w w':=by
 have KM:=GS p hs;have hm:AK p=true->1<=p.len/\p.len<=4096:=fun h=>by rw[J3]at h;simp at h;exact h.2
 have hn:EC p=if AK p then(if p.kind==2 then 2*p.len else p.len)else 0:=rfl;rw[hn];clear hn;obtain⟨N,hN⟩:=gA (AK p)
 rw[hN]at KM hm |-;clear hN hs;obtain⟨X,K,L⟩:=p;unfold pv at KM |-;simp only at hm KM |-;have HK:Hid (∀w,Calls prog 88 #[.agg #[.string X,.int .i64 K,.int .i64 L]] w fun e w'=>e=.returned (.bool (!N))/\Below w.heap.size w w'):=KM;clear KM;cases N
 .clear hm;go_enter func126,ntmps126;go_wp2_with(go_at_call 88;refine(HK.out _).mono ?_;rintro e w1 ⟨rfl,hb1⟩);exact Wg
 .have hL:=hm rfl;clear hm;cases h2:(K==2)
  .go_enter func126,ntmps126;go_wp2_with(go_at_call 88;refine(HK.out _).mono ?_;rintro e w1 ⟨rfl,hb1⟩;have c1:w1.cell? ⟨w.heap.size,1,none⟩=some (.int .i64 K):=(hb1.cell sM).trans sG;have c2:w1.cell? ⟨w.heap.size,2,none⟩=some (.int .i64 L):=(hb1.cell sM).trans sG);exact Wg
  .have hw:IntKind.i64.wrap (2*L)=2*L:=by rw[IntKind.wrap_i64];omega
   go_enter func126,ntmps126;go_wp2_with(go_at_call 88;refine(HK.out _).mono ?_;rintro e w1 ⟨rfl,hb1⟩;have c1:w1.cell? ⟨w.heap.size,1,none⟩=some (.int .i64 K):=(hb1.cell sM).trans sG;have c2:w1.cell? ⟨w.heap.size,2,none⟩=some (.int .i64 L):=(hb1.cell sM).trans sG);go_ret;exact⟨DG sM,bel (A2 _ _) hb1⟩
theorem LZ(v:Value)(l:List Bc)(hl:l.length<=140737488351232)(hM:∀p∈l,p.name.size<=140737488351232)(w:World)(hr:Rd w v l):
 Calls prog 90 #[v] w fun e w'=>e=.returned (.int .i64 (C4 l))/\Below w.heap.size w w':=by
 obtain⟨p,c,rfl,hr⟩:=hr;obtain⟨n,hn⟩:=gA (l.length)
 rw[hn]at hl |-;have HN:Hid (l.length=n):=hn;have HR:Hid (P6 w p l):=hr;have HM:Hid (∀p∈l,p.name.size<=140737488351232):=hM;clear hn hr hM;go_enter func90,ntmps90;go_wp2
 go_loopw [3,8] (fun tv iv wr=>Below w.heap.size w wr/\∃j:Nat,j<=n/\iv=.int .i64 j/\tv=.int .i64 (C4 (l.take j))) (fun _ iv _=>n-(intOf iv).toNat)
 case atStart=>exact⟨BY w,0,gJ _,rfl,rfl⟩
 case round=>
  obtain⟨hb,j,hj,rfl,rfl⟩:=hrel;by_cases hlt:j<n
  .have hll:j<l.length:=by rw[HN.out];exact hlt
   obtain⟨b,o,rfl,hx⟩:=HR.at hll;obtain⟨x0,x1,x2⟩:=hx.below hb;have i1:(0:Int)<=(j:Int):=oM;have i2:(j:Int)<(n:Int):=oM;have KN:=Jn l[j] (HM.out _ (gD hll));unfold pv at KN;have HK:Hid (∀w,Calls prog 126 #[.agg #[.string l[j].name,.int .i64 l[j].kind,.int .i64 l[j].len]] w fun e w'=>e=.returned (.int .i64 (EC l[j]))/\Below w.heap.size w w'):=KN;have ht:C4 (l.take (j+1))=C4 (l.take j)+EC l[j]:=by rw[Ex hll,Ku]
   have hb1:=F8 (l.take j);have hb2:=Dw l[j];rw[List.length_take,HN.out,Nat.min_eq_left hj]at hb1;obtain⟨T,hT⟩:=gA (C4 (l.take j))
   obtain⟨U,hU⟩:=gA (EC l[j])
   rw[hT,hU]at ht;rw[hT]at hb1 |-;rw[hU]at hb2 HK;have HT:Hid (C4 (l.take (j+1))=T+U):=ht;have hw1:IntKind.i64.wrap (T+U)=T+U:=by rw[IntKind.wrap_i64];omega
   clear KN ht hT hU hx;go_wp2_with(go_at_call 126;refine(HK.out _).mono ?_;rintro e w1 ⟨rfl,hb3⟩);go_roundw
   case rel=>exact⟨bel (bel hb gG) hb3,j+1,oM,gN,by rw[HT.out]⟩
   case measure=>simp[intOf];omega
  .exact Y1
end Go.Proofs.YtjlpkjblkllfbaaGreatDoor
