import Derived.Test.YtnbccaicijcklaaGreatMns2
import Derived.Test.YtnbccaicijcklaaGreatMns3
import Derived.Maps.OwnSet
import Derived.Test.YtnbccaicijcklaaGreatMns1
import Derived.Deep.AppendLies
import Derived.Test.YtnbccaicijcklaaGreatRows
import Derived.WalkKit
import Derived.ProofKit
import Derived.OpenShut
import Derived.JoinedCond
import Derived.Deep.Slices
import Derived.Deep.Strs
import Derived.SizedLaws
namespace Go.Proofs.YtnbccaicijcklaaGreat
open Go.RowKit Go.Proofs.Tryz
set_option linter.all false
set_option maxRecDepth 100000
set_option maxHeartbeats 16000000
theorem idx4(c:Int)(h0:0<=c)(h1:c<=255):(0<=Lib.indexByte (⟨#[95,46,47,45]⟩:ByteArray).data.toList c.toNat.toUInt8)↔(c=95\/c=46\/c=47\/c=45):=by
 obtain⟨k,rfl⟩:∃k:Nat,c=k:=⟨c.toNat,oM⟩
 have hk:k<256:=oM;have Bl:∀k:Fin 256,(0<=Lib.indexByte [95,46,47,45] k.val.toUInt8)↔((k.val:Int)=95\/(k.val:Int)=46\/(k.val:Int)=47\/(k.val:Int)=45):=by decide+kernel
 exact Bl ⟨k,hk⟩
theorem PG(c:Int)(h0:0<=c)(h1:c<=255)(w:World):
 Calls prog 117 #[.int .u8 c] w fun e w'=>e=.returned (.bool (Ic c))/\w'=w:=by
 have hX:=idx4 c h0 h1;have K:=fun w=>Gc ⟨#[95,46,47,45]⟩ c w;obtain⟨x,hx⟩:=gA (Lib.indexByte (⟨#[95,46,47,45]⟩:ByteArray).data.toList c.toNat.toUInt8)
 rw[hx]at hX;simp only[hx]at K;have HK:Hid (∀w,Calls prog 129 #[.string ⟨#[95,46,47,45]⟩,.int .u8 c] w fun e w'=>e=.returned (.int .i64 x)/\w'=w):=K;clear K hx;have HP:Hid (∀b:Bool,(b=true↔(97<=c/\c<=122\/65<=c/\c<=90\/48<=c/\c<=57\/0<=x))->b=Ic c):=fun b hb=>by
  rw[Bool.eq_iff_iff,hb];unfold Ic;simp only[Bool.or_eq_true,Bool.and_eq_true,decide_eq_true_eq,beq_iff_eq];omega
 have hcl:(c<48)\/(48<=c/\c<=57)\/(57<c/\c<65)\/(65<=c/\c<=90)\/(90<c/\c<97)\/(97<=c/\c<=122)\/(122<c):=oM;rcases hcl with h|h|h|h|h|h|h
 .have a1:¬ (65:Int)<=c:=oM;have a2:¬ (97:Int)<=c:=oM;have a3:¬ (48:Int)<=c:=oM;by_cases hx0:0<=x
  all_goals
   exact Zbk
 .have a1:¬ (65:Int)<=c:=oM;have a2:¬ (97:Int)<=c:=oM;have a3:(48:Int)<=c:=oM;have a4:c<=(57:Int):=oM;exact Zbk
 .have a1:¬ (65:Int)<=c:=oM;have a2:¬ (97:Int)<=c:=oM;have a3:(48:Int)<=c:=oM;have a4:¬c<=(57:Int):=oM;by_cases hx0:0<=x
  all_goals
   exact Zbk
 .have a1:(65:Int)<=c:=oM;have a2:¬ (97:Int)<=c:=oM;have a3:(48:Int)<=c:=oM;have a4:¬c<=(57:Int):=oM;have a5:c<=(90:Int):=oM;exact Zbk
 .have a1:(65:Int)<=c:=oM;have a2:¬ (97:Int)<=c:=oM;have a3:(48:Int)<=c:=oM;have a4:¬c<=(57:Int):=oM;have a5:¬c<=(90:Int):=oM;by_cases hx0:0<=x
  all_goals
   exact Zbk
 .have a1:(65:Int)<=c:=oM;have a2:(97:Int)<=c:=oM;have a3:(48:Int)<=c:=oM;have a4:¬c<=(57:Int):=oM;have a5:¬c<=(90:Int):=oM;have a6:c<=(122:Int):=oM;exact Zbk
 .have a1:(65:Int)<=c:=oM;have a2:(97:Int)<=c:=oM;have a3:(48:Int)<=c:=oM;have a4:¬c<=(57:Int):=oM;have a5:¬c<=(90:Int):=oM;have a6:¬c<=(122:Int):=oM;by_cases hx0:0<=x
  all_goals
   exact Zbk
theorem PJ(s:ByteArray)(hs:s.size<=140737488351232)(w:World):
 Calls prog 98 #[.string s] w fun e w'=>e=.returned (.bool (BA s))/\w'=w:=by
 by_cases h0:s.size=0
 .have he:s.toList.isEmpty=true:=by rw[DV];simp[h0]
  have he2:(s.toList==[])=true:=by rw[G0];simp[h0]
  have hf:BA s=false:=by unfold BA;simp[h0]
  rw[hf];go_enter func98,ntmps98;go_wp2
  all_goals(go_ret;exact⟨rfl,rfl⟩)
 .have he:s.toList.isEmpty=false:=by rw[DV];simp[h0]
  have he2:(s.toList==[])=false:=by rw[G0];simp[h0]
  by_cases h64:s.size<=64
  .have h64':¬ ((64:Int)<(s.size:Int)):=oM;go_enter func98,ntmps98;go_wp2
   go_loopw [13] (fun iv wr=>wr=w/\∃j:Nat,j<=s.size/\iv=.int .i64 j/\Hid (∀i (h:i<s.size),i<j->Ic (s[i].toNat:Int)=true)) (fun iv _=>s.size-(intOf iv).toNat)
   case atStart=>exact⟨rfl,0,gI _,rfl,fun i h hi=>absurd hi (Nat.not_lt_zero _)⟩
   case round=>
    obtain⟨rfl,j,hj,rfl,hp⟩:=hrel;by_cases hlt:j<s.size
    .have i1:(0:Int)<=(j:Int):=oM;have i2:(j:Int)<(s.size:Int):=oM;have hc2:(s[j].toNat:Int)<=255:=by have:=s[j].toNat_lt;omega
     have K:=fun w=>PG (s[j].toNat:Int) oM hc2 w;have NX:Hid (Ic (s[j].toNat:Int)=true->∀i (h:i<s.size),i<j+1->Ic (s[i].toNat:Int)=true):=fun hq i h hi=>by
      exact Zda
     have NB:Hid (Ic (s[j].toNat:Int)=false->BA s=false):=fun h=>LJ hlt h;obtain⟨N,hN⟩:=gA (Ic (s[j].toNat:Int))
     rw[hN]at NX NB;simp only[hN]at K;have HK:Hid (∀w,Calls prog 117 #[.int .u8 (s[j].toNat:Int)] w fun e w'=>e=.returned (.bool N)/\w'=w):=K;clear K hN hp hc2;cases N
     .go_wp2_with(go_at_call 117;refine(HK.out _).mono ?_;rintro e w1 ⟨rfl,rfl⟩);go_ret;exact⟨Ab (NB.out sM).symm,fT⟩
     .go_wp2_with(go_at_call 117;refine(HK.out _).mono ?_;rintro e w1 ⟨rfl,rfl⟩);go_roundw
      case rel=>exact⟨fT,j+1,oM,gN,NX.out sM⟩
      case measure=>simp[intOf];omega
    .exact Zfa
  .have h64':(64:Int)<(s.size:Int):=oM;have hf:BA s=false:=by unfold BA;simp[h64]
   rw[hf];go_enter func98,ntmps98;go_wp2
   all_goals(go_ret;exact⟨rfl,rfl⟩)
theorem JU(p:BM)(hs:p.name.size<=140737488351232)(w:World):
 Calls prog 72 #[pv p] w fun e w'=>e=.returned (.bool (!BP p))/\Below w.heap.size w w':=by
 rw[MI];obtain⟨X,K,L⟩:=p;unfold pv;have KN:=PJ X hs;simp only;obtain⟨N,hN⟩:=gA (BA X)
 rw[hN]at KN |-;have HK:Hid (∀w,Calls prog 98 #[.string X] w fun e w'=>e=.returned (.bool N)/\w'=w):=KN;clear KN hN;have hk:((K==1)=true/\(K==2)=false)\/((K==1)=false/\(K==2)=true)\/((K==1)=false/\(K==2)=false):=by
  exact Zeq
 have hL:(1<=L/\L<=4096)\/(¬1<=L/\L<=4096)\/(1<=L/\¬L<=4096):=oM;cases N<;>rcases hk with⟨h1,h2⟩|⟨h1,h2⟩|⟨h1,h2⟩<;>rcases hL with⟨h3,h4⟩|⟨h3,h4⟩|⟨h3,h4⟩
 all_goals
  go_enter func72,ntmps72;go_wp2_with(go_at_call 98;refine(HK.out _).mono ?_;rintro e w1 ⟨rfl,rfl⟩);go_ret;exact⟨Ab (by simp[h1,h2,h3,h4]),A0 _ _⟩
theorem N9(p:BM)(hs:p.name.size<=140737488351232)(w:World):
 Calls prog 99 #[pv p] w fun e w'=>e=.returned (.int .i64 (Dh p))/\Below w.heap.size w w':=by
 have KM:=JU p hs;have hm:BP p=true->1<=p.len/\p.len<=4096:=fun h=>by rw[MI]at h;simp at h;exact h.2
 have hn:Dh p=if BP p then(if p.kind==2 then 2*p.len else p.len)else 0:=rfl;rw[hn];clear hn;obtain⟨N,hN⟩:=gA (BP p)
 rw[hN]at KM hm |-;clear hN hs;obtain⟨X,K,L⟩:=p;unfold pv at KM |-;simp only at hm KM |-;have HK:Hid (∀w,Calls prog 72 #[.agg #[.string X,.int .i64 K,.int .i64 L]] w fun e w'=>e=.returned (.bool (!N))/\Below w.heap.size w w'):=KM;clear KM;cases N
 .clear hm;go_enter func99,ntmps99;go_wp2_with(go_at_call 72;refine(HK.out _).mono ?_;rintro e w1 ⟨rfl,hb1⟩);exact Zel
 .have hL:=hm rfl;clear hm;cases h2:(K==2)
  .go_enter func99,ntmps99;go_wp2_with(go_at_call 72;refine(HK.out _).mono ?_;rintro e w1 ⟨rfl,hb1⟩;have c1:w1.cell? ⟨w.heap.size,1,none⟩=some (.int .i64 K):=(hb1.cell sM).trans sG;have c2:w1.cell? ⟨w.heap.size,2,none⟩=some (.int .i64 L):=(hb1.cell sM).trans sG);exact Zel
  .have hw:IntKind.i64.wrap (2*L)=2*L:=by rw[IntKind.wrap_i64];omega
   go_enter func99,ntmps99;go_wp2_with(go_at_call 72;refine(HK.out _).mono ?_;rintro e w1 ⟨rfl,hb1⟩;have c1:w1.cell? ⟨w.heap.size,1,none⟩=some (.int .i64 K):=(hb1.cell sM).trans sG;have c2:w1.cell? ⟨w.heap.size,2,none⟩=some (.int .i64 L):=(hb1.cell sM).trans sG);go_ret;exact⟨Fu sM,bel (A0 _ _) hb1⟩
theorem Qz(v:Value)(l:List BM)(hl:l.length<=140737488351232)(hM:∀p∈l,p.name.size<=140737488351232)(w:World)(hr:Rd w v l):
 Calls prog 74 #[v] w fun e w'=>e=.returned (.int .i64 (D0 l))/\Below w.heap.size w w':=by
 obtain⟨p,c,rfl,hr⟩:=hr;obtain⟨n,hn⟩:=gA (l.length)
 rw[hn]at hl |-;have HN:Hid (l.length=n):=hn;have HR:Hid (UC w p l):=hr;have HM:Hid (∀p∈l,p.name.size<=140737488351232):=hM;clear hn hr hM;go_enter func74,ntmps74;go_wp2
 go_loopw [3,8] (fun tv iv wr=>Below w.heap.size w wr/\∃j:Nat,j<=n/\iv=.int .i64 j/\tv=.int .i64 (D0 (l.take j))) (fun _ iv _=>n-(intOf iv).toNat)
 case atStart=>exact⟨BZ w,0,gI _,rfl,rfl⟩
 case round=>
  obtain⟨hb,j,hj,rfl,rfl⟩:=hrel;by_cases hlt:j<n
  .have hll:j<l.length:=by rw[HN.out];exact hlt
   obtain⟨b,o,rfl,hx⟩:=HR.at hll;obtain⟨x0,x1,x2⟩:=hx.below hb;have i1:(0:Int)<=(j:Int):=oM;have i2:(j:Int)<(n:Int):=oM;have KN:=N9 l[j] (HM.out _ (gD hll));unfold pv at KN;have HK:Hid (∀w,Calls prog 99 #[.agg #[.string l[j].name,.int .i64 l[j].kind,.int .i64 l[j].len]] w fun e w'=>e=.returned (.int .i64 (Dh l[j]))/\Below w.heap.size w w'):=KN;have ht:D0 (l.take (j+1))=D0 (l.take j)+Dh l[j]:=by rw[IH hll,OS]
   have hb1:=GX (l.take j);have hb2:=GO l[j];rw[List.length_take,HN.out,Nat.min_eq_left hj]at hb1;obtain⟨T,hT⟩:=gA (D0 (l.take j))
   obtain⟨U,hU⟩:=gA (Dh l[j])
   rw[hT,hU]at ht;rw[hT]at hb1 |-;rw[hU]at hb2 HK;have HT:Hid (D0 (l.take (j+1))=T+U):=ht;have hw1:IntKind.i64.wrap (T+U)=T+U:=by rw[IntKind.wrap_i64];omega
   clear KN ht hT hU hx;go_wp2_with(go_at_call 99;refine(HK.out _).mono ?_;rintro e w1 ⟨rfl,hb3⟩);go_roundw
   case rel=>exact⟨bel (bel hb gG) hb3,j+1,oM,gN,by rw[HT.out]⟩
   case measure=>simp[intOf];omega
  .exact Zen
section
open Go.RowKit Go.Maps Go.Proofs.Tryz
theorem L7(v:Value)(l:List BM)(hl:l.length<=140737488351232)(hM:∀p∈l,p.name.size<=140737488351232)(w:World)(hr:Rd w v l):
 Calls prog 97 #[v,.func (.func 72) #[] #[]] w fun e w'=>(∃x:Int,e=.returned (.int .i64 x)/\-1<=x/\(0<=x↔l.all BP=false))/\Below w.heap.size w w':=by
 obtain⟨p,c,rfl,hr⟩:=hr;obtain⟨n,hn⟩:=gA (l.length)
 rw[hn]at hl |-;have HN:Hid (l.length=n):=hn;have HR:Hid (UC w p l):=hr;have HM:Hid (∀p∈l,p.name.size<=140737488351232):=hM;clear hn hr hM;go_enter func97,ntmps97;go_wp2
 go_loopw [8] (fun iv wr=>Below w.heap.size w wr/\∃j:Nat,j<=n/\iv=.int .i64 j/\Hid (∀i (h:i<l.length),i<j->BP l[i]=true)) (fun iv _=>n-(intOf iv).toNat)
 case atStart=>exact⟨BZ w,0,gI _,rfl,fun i h hi=>absurd hi (Nat.not_lt_zero _)⟩
 case round=>
  obtain⟨hb,j,hj,rfl,hp⟩:=hrel;by_cases hlt:j<n
  .have hll:j<l.length:=by rw[HN.out];exact hlt
   obtain⟨b,o,rfl,hx⟩:=HR.at hll;obtain⟨x0,x1,x2⟩:=hx.below hb;have i1:(0:Int)<=(j:Int):=oM;have i2:(j:Int)<(n:Int):=oM;have KN:=JU l[j] (HM.out _ (gD hll));unfold pv at KN;have NX:Hid (BP l[j]=true->∀i (h:i<l.length),i<j+1->BP l[i]=true):=fun hq i h hi=>by
    exact Zda
   have NB:Hid (BP l[j]=false->l.all BP=false):=fun h=>List.all_eq_false.2 ⟨l[j],gD hll,by rw[h];decide⟩;obtain⟨N,hN⟩:=gA (BP l[j])
   rw[hN]at NX NB;simp only[hN]at KN;have HK:Hid (∀w,Calls prog 72 #[.agg #[.string l[j].name,.int .i64 l[j].kind,.int .i64 l[j].len]] w fun e w'=>e=.returned (.bool (!N))/\Below w.heap.size w w'):=KN;clear KN hN hp hx;cases N
   .go_wp2_with(go_at_call 72;refine(HK.out _).mono ?_;rintro e w1 ⟨rfl,hb3⟩);go_ret;exact⟨⟨_,rfl,oM,⟨fun _=>NB.out sM,fun _=>by omega⟩⟩,bel hb hb3⟩
   .go_wp2_with(go_at_call 72;refine(HK.out _).mono ?_;rintro e w1 ⟨rfl,hb3⟩);go_roundw
    case rel=>exact⟨bel hb hb3,j+1,oM,gN,NX.out sM⟩
    case measure=>simp[intOf];omega
  .have:j=n:=oM;subst this;have HF:Hid (l.all BP=true):=List.all_eq_true.2 fun q hq=>by
    obtain⟨i,hi,rfl⟩:=List.mem_iff_getElem.1 hq;exact Zfl
   clear hp;go_wp2;go_ret;exact⟨⟨_,rfl,oM,⟨fun h=>absurd h oM,fun h=>absurd h (by rw[HF.out];decide)⟩⟩,hb⟩
theorem Mr(v:Value)(l:List BM)(hl:l.length<=140737488351232)(hM:∀p∈l,p.name.size<=140737488351232)(w:World)(hr:Rd w v l):
 Calls prog 71 #[v,.func (.func 72) #[] #[]] w fun e w'=>e=.returned (.bool (!l.all BP))/\Below w.heap.size w w':=by
 have HK:Hid (Calls prog 97 #[v,.func (.func 72) #[] #[]] w fun e w'=>(∃x:Int,e=.returned (.int .i64 x)/\-1<=x/\(0<=x↔l.all BP=false))/\Below w.heap.size w w'):=L7 v l hl hM w hr;obtain⟨N,hN⟩:=gA (l.all BP)
 rw[hN]at HK |-;clear hN;go_enter func71,ntmps71;go_wp2_with(go_at_call 97;refine HK.mono ?_;rintro e w1 ⟨⟨x,rfl,hx1,hx2⟩,hb1⟩;have HX:Hid (0<=x↔N=false):=hx2;clear hx2);go_ret;refine⟨Ab ?_,hb1⟩;have:=HX.out;cases N
 .simp only[Bool.not_false,decide_eq_true_eq];exact this.2 rfl
 .simp only[Bool.not_true,decide_eq_false_iff_not];intro h;exact absurd (this.1 h) dE
end
section
open Go.RowKit Go.Maps Go.WideMaps Go.Proofs.Tryz
def GC(s:ByteArray):Lit:=.string s.data.toList
theorem NZ{a b:ByteArray}(h:GC a=GC b):a=b:=by
 unfold GC at h;injection h with h;exact UW h
theorem E1(s:ByteArray):∀ (l:List BM) (p:BM),AW s (l++[p])=match AW s l with |some i=>some i|none=>if p.name=s then some l.length else none
 |[],p=>by simp[AW]
 |q::l,p=>by
  rw[List.cons_append];simp only[AW];by_cases h:q.name=s
  .rw[if_pos h,if_pos h]
  .rw[if_neg h,if_neg h,E1 s l p];cases AW s l with
   |some i=>rfl
   |none=>
    simp only[Option.map_none];split
    .rfl
    .rfl
theorem NH(s:ByteArray):∀ (l:List BM),(AW s l).isSome=l.any fun q=>decide (q.name=s)
 |[]=>rfl
 |q::l=>by
  simp only[AW,List.any_cons];by_cases h:q.name=s
  .rw[if_pos h];simp[h]
  .rw[if_neg h,Option.isSome_map,NH s l];simp[h]
theorem FA:∀ (l:List BM) (p:BM),Bw (l++[p])=(Bw l||(AW p.name l).isSome)
 |[],p=>rfl
 |q::l,p=>by
  rw[List.cons_append];simp only[Bw,List.any_append,List.any_cons,List.any_nil,FA l p,NH];have e:decide (p.name=q.name)=decide (q.name=p.name):=by rw[decide_eq_decide];exact eq_comm
  rw[e];cases(l.any fun r=>decide (r.name=q.name))<;>cases(Bw l)<;>cases(decide (q.name=p.name))<;>cases(l.any fun r=>decide (r.name=p.name))<;>rfl
structure EL(l:List BM)(D:DataW Unit):Prop where
 has:∀s,Maps.has D (GC s)=(AW s l).isSome
 val:∀s i z,AW s l=some i->D.atKey (GC s) z=.lit (.int .i64 (i:Int))
 no:Bw l=false->Maps.size D=l.length
 yes:Bw l=true->Maps.size D<l.length
theorem Pz:EL [] (.map []):=⟨fun _=>rfl,fun s i z h=>by simp[AW]at h,fun _=>rfl,fun h=>by simp[Bw]at h⟩
theorem PA{l:List BM}{D:DataW Unit}(h:EL l D){p:BM}(hh:Maps.has D (GC p.name)=true):EL (l++[p]) D:=by
 have hp:(AW p.name l).isSome=true:=by rw[<-h.has];exact hh
 have hf:∀s,AW s (l++[p])=AW s l:=fun s=>by
  rw[E1];cases e:AW s l with
  |some i=>rfl
  |none=>
   simp only;rw[if_neg];rintro rfl;rw[e]at hp;exact absurd hp dE
 have hle:Maps.size D<=l.length:=by
  cases e:Bw l
  .exact Nat.le_of_eq (h.no e)
  .exact Nat.le_of_lt (h.yes e)
 refine⟨fun s=>by rw[hf];exact h.has s,fun s i z e=>h.val s i z (by rw[<-hf];exact e),fun e=>?_,fun e=>?_⟩
 .rw[FA,hp,Bool.or_true]at e;exact absurd e dE
 .simp only[List.length_append,List.length_cons,List.length_nil];omega
theorem Py{l:List BM}{D:DataW Unit}(h:EL l D)(ht:Tidy D){p:BM}(hh:Maps.has D (GC p.name)=false):EL (l++[p]) (D.put (GC p.name) (.lit (.int .i64 (l.length:Int)))):=by
 have hp:(AW p.name l).isSome=false:=by rw[<-h.has];exact hh
 have hpn:AW p.name l=none:=by simpa using hp
 have hsz:Maps.size (D.put (GC p.name) (.lit (.int .i64 (l.length:Int))))=Maps.size D+1:=by rw[size_put ht,hh];rfl
 refine⟨fun s=>?_,fun s i z e=>?_,fun e=>?_,fun e=>?_⟩
 .by_cases hs:s=p.name
  .subst hs;rw[has_put_same ht.isMap (show WideAt.IsKeyLit (GC p.name)from trivial),E1,hpn];simp
  .rw[has_put_other (fun e=>hs (NZ e)),h.has,E1];cases e:AW s l with
   |some i=>rfl
   |none=>simp only;rw[if_neg (fun e=>hs e.symm)]
 .by_cases hs:s=p.name
  .subst hs;rw[E1,hpn]at e;simp at e;subst e;exact atKey_put_same ht.isMap (show WideAt.IsKeyLit (GC p.name)from trivial) _ _
  .rw[atKey_put_other (fun e=>hs (NZ e))];refine h.val s i z ?_;rw[E1]at e;cases e2:AW s l with
   |some j=>rw[e2]at e;exact e
   |none=>rw[e2]at e;simp only at e;rw[if_neg (fun e=>hs e.symm)]at e;exact absurd e sM
 .rw[FA,hp,Bool.or_false]at e;rw[hsz,h.no e];simp
 .rw[FA,hp,Bool.or_false]at e;have:=h.yes e;rw[hsz];simp only[List.length_append,List.length_cons,List.length_nil];omega
theorem Ze:Keyed prog 9:=string_keyed underlying9
theorem zeroI(w:World):(zeroValue 3).run prog w=.ok (.int .i64 0) w:=kR
def FM(w:World)(b n:Nat)(D:DataW Unit):Prop:=w.ownsMap prog 9 (plainElem prog 3) b n D
theorem FM.below{w w':World}{b n:Nat}{D:DataW Unit}(h:FM w b n D)(k:Below w.heap.size w w'):FM w' b n D:=
 World.ownsMap.kept h (row:=none) ⟨k.os,k.tape,k.output,k.size,fun j hj _=>k.block j hj⟩ sM
theorem Px(v:Value)(l:List BM)(hl:l.length<=140737488351232)(hM:∀p∈l,p.name.size<=140737488351232)(w:World)(hr:Rd w v l):
 Calls prog 73 #[v] w fun e w'=>∃D,e=.returned (.map (some w.heap.size))/\FM w' w.heap.size l.length D/\EL l D/\Below w.heap.size w w':=by
 obtain⟨p,c,rfl,hr⟩:=hr;obtain⟨n,hn⟩:=gA (l.length)
 rw[hn]at hl |-;have HN:Hid (l.length=n):=hn;have HR:Hid (UC w p l):=hr;have HM:Hid (∀p∈l,p.name.size<=140737488351232):=hM;clear hn hr hM;have hmm:=@run_makeMap prog;go_enter func73,ntmps73;go_wp2
 go_loopw [11] (fun iv wr=>Below w.heap.size w wr/\∃j:Nat,j<=n/\iv=.int .i64 j/\∃D,Hid (FM wr w.heap.size j D/\EL (l.take j) D)) (fun iv _=>n-(intOf iv).toNat)
 case atStart=>exact⟨A0 _ _,0,gI _,rfl,.map [],World.ownsMap_made _ _ _ _,Pz⟩
 case round=>
  obtain⟨hb,j,hj,rfl,D,hD⟩:=hrel;by_cases hlt:j<n
  .have hll:j<l.length:=by rw[HN.out];exact hlt
   obtain⟨b,o,rfl,hx⟩:=HR.at hll;obtain⟨x0,x1,x2⟩:=hx.below hb;have i1:(0:Int)<=(j:Int):=oM;have i2:(j:Int)<(n:Int):=oM;have hkey:keyOf prog 9 (.string l[j].name)=some (GC l[j].name):=keyOf_string_mk underlying9 (by have:=HM.out _ (gD hll);unfold maxLen;omega);have HT:Hid (l.take (j+1)=l.take j++[l[j]]/\(l.take j).length=j):=⟨IH hll,by rw[List.length_take];omega⟩
   have hwf:(Lit.int .i64 (j:Int)).wf=true:=WalkArith.wf_i64 oM;have hown:Hid (FM (wr.alloc (.cells #[.string l[j].name,.int .i64 l[j].kind,.int .i64 l[j].len] 67)) w.heap.size j D):=hD.1.below (A0 _ _);have HF:Hid (EL (l.take j) D):=hD.2;clear hD hx;cases hsn:Maps.has D (GC l[j].name)
   .have HS:Hid (Maps.has D (GC l[j].name)=false):=hsn;have tok:True:=trivial;clear hsn;go_wp2_with(first
     |(at_lookup;have _t:=tok;refine wpList_lookup_own_ok_int _ rfl _ _ 141 rfl 9 3 .i64 Ze underlying141 underlying3 (zeroI _) w.heap.size j D rfl hown.out _ _ rfl hkey ?_;intro c hat hwc;rw[HS.out];clear hat hwc tok)
     |(at_mapUpdate;refine wpList_mapUpdate_own _ rfl _ _ _ 141 rfl 9 3 Ze underlying141 _ w.heap.size j D rfl hown.out mL _ _ _ rfl rfl hkey _ [] (plainElem_int underlying3 hwf) ?_;intro w1 hown1 hgrow1;have H1:Hid (FM w1 w.heap.size (j+1) (D.put (GC l[j].name) (.lit (.int .i64 (j:Int))))/\World.grownBy _ w1 (some w.heap.size)):=⟨hown1,hgrow1⟩;clear hown1 hgrow1))
    go_roundw
    case rel=>
     refine⟨?_,j+1,oM,gN,_,H1.1,?_⟩
     .exact Below.grown (bel hb (A0 _ _)) H1.2 (by have:=hb.size;simp;omega) (fun k e=>by cases e;exact gF _)
     .rw[HT.1];have:=Py HF.out (World.ownsMap.tidy hown.out Ze) HS.out;rw[HT.2]at this;exact this
    case measure=>simp[intOf];omega
   .have HS:Hid (Maps.has D (GC l[j].name)=true):=hsn;clear hsn;go_wp2_with(at_lookup;refine wpList_lookup_own_ok_int _ rfl _ _ 141 rfl 9 3 .i64 Ze underlying141 underlying3 (zeroI _) w.heap.size j D rfl hown.out _ _ rfl hkey ?_;intro c hat hwc;rw[HS.out];clear hat hwc);go_roundw
    case rel=>
     refine⟨bel hb (A0 _ _),j+1,oM,gN,D,World.ownsMap.mono hown.out (Nat.le_succ _),?_⟩;rw[HT.1];exact PA HF.out HS.out
    case measure=>simp[intOf];omega
  .have:j=n:=oM;subst this;have HF:Hid (FM wr w.heap.size j D/\EL l D):=⟨hD.1,by have:=hD.2;rw[List.take_of_length_le (by rw[HN.out];exact gF _)]at this;exact this⟩
   clear hD;go_wp2;go_ret;exact⟨D,rfl,HF.1,HF.2,hb⟩
end
section
open Go.RowKit Go.Maps Go.WideMaps Go.Proofs.Tryz
theorem Qy(v:Value)(l:List BM)(hl:l.length<=140737488351232)(hM:∀p∈l,p.name.size<=140737488351232)(w:World)(hr:Rd w v l):
 Calls prog 45 #[v] w fun e w'=>e=.returned (.int .i64 (B0 l))/\Below w.heap.size w w':=by
 have K1:=Mr v l hl hM w hr;have K2:=fun w h=>Px v l hl hM w h;have K3:=fun w h=>Qz v l hl hM w h;have HR:Hid (Rd w v l):=hr;have htb:=GX l;unfold B0;obtain⟨p,c,rfl,_⟩:=hr;obtain⟨n,hn⟩:=gA (l.length)
 obtain⟨N,hN⟩:=gA (l.all BP)
 obtain⟨T,hT⟩:=gA (D0 l)
 rw[hn]at K1 K2 K3 HR hl htb |-;rw[hN]at K1 |-;rw[hT]at htb |-;simp only[hT]at K3;have HK1:Hid (Calls prog 71 #[.slice p n c,.func (.func 72) #[] #[]] w fun e w'=>e=.returned (.bool (!N))/\Below w.heap.size w w'):=K1;have HK2:Hid (∀w,Rd w (.slice p n c) l->Calls prog 73 #[.slice p n c] w fun e w'=>∃D,e=.returned (.map (some w.heap.size))/\FM w' w.heap.size n D/\EL l D/\Below w.heap.size w w'):=K2;have HK3:Hid (∀w,Rd w (.slice p n c) l->Calls prog 74 #[.slice p n c] w fun e w'=>e=.returned (.int .i64 T)/\Below w.heap.size w w'):=K3;have HN:Hid (l.length=n):=hn;clear K1 K2 K3 hN hT hM hn;by_cases h64:n>64
 .have h64':(64:Int)<(n:Int):=oM;rw[if_pos h64];clear h64;go_enter func45,ntmps45;go_wp2
  all_goals(go_ret;exact⟨rfl,BZ w⟩)
 .have h64':¬ (64:Int)<(n:Int):=oM;rw[if_neg h64];clear h64;cases N
  .rw[if_pos rfl];go_enter func45,ntmps45;go_wp2_with(go_at_call 71;refine HK1.mono ?_;rintro e w1 ⟨rfl,hb1⟩)
   all_goals(go_ret;exact⟨rfl,hb1⟩)
  .rw[if_neg dE];cases htw:Bw l
   .rw[if_neg dE];have HW:Hid (Bw l=false):=htw;clear htw;by_cases h3:T>65536
    .rw[if_pos h3];have h3':(65536:Int)<T:=oM;exact Zbo
    .rw[if_neg h3];have h3':¬ (65536:Int)<T:=oM;exact Zbo
   .rw[if_pos rfl];have HW:Hid (Bw l=true):=htw;clear htw;go_enter func45,ntmps45;go_wp2_with(first
     |(go_at_call 71;refine HK1.mono ?_;rintro e w1 ⟨rfl,hb1⟩)
     |(go_at_call 73;refine(HK2.out _ (HR.below hb1)).mono ?_;rintro e w2 ⟨D,rfl,hm,hf,hb2⟩;have HM1:Hid (FM w2 w1.heap.size n D):=hm;have hs:Maps.size D<n:=(by have:=hf.yes HW.out;rw[HN.out]at this;exact this);have hs2:(Maps.size D:Int)<(n:Int):=oM;clear hm hf hs)
     |(have _t:=HM1;at_len;refine wpList_len_own _ rfl _ 141 rfl 9 3 underlying141 _ w1.heap.size n D rfl HM1.out ?_;clear HM1))
    all_goals(go_ret;exact⟨rfl,bel hb1 hb2⟩)
end
theorem KH(C:Nat)(v0 v1 v2 v3:Value)(c:Cd)(hk:Ba c)(w:World)(hc:Cm w C v0 v1 v2 v3 c):
 Calls prog 46 #[.pointer (some ⟨C,0,none⟩)] w fun e w'=>e=.returned (.bool (Ax c))/\Below w.heap.size w w':=by
 obtain⟨hcc,hcv⟩:=hc;have c0:=hcc.at 0 rfl;have c1:=hcc.at 1 rfl;rw[Nat.zero_add]at c0 c1;have hC:=A8 c0;simp only at hC;have hr:=hcv.regs;obtain⟨p,q,rfl,hrr⟩:=hcv.regs;obtain⟨p0,q0,rfl,hrr0⟩:=hcv.sign;have HB:=hk.regsL;have HB0:=hk.signL;unfold Ax;obtain⟨M,hM⟩:=gA (c.sign.length)
 rw[hM]at c0 HB0 |-;obtain⟨l,hl⟩:=gA (c.regs)
 rw[hl]at c1 hr HB |-;obtain⟨N,hN⟩:=gA (l.length)
 have HN:Hid (l.length=N):=hN;rw[hN]at c1 hr HB;have HR:Hid (AV 2 J6 w (.slice p N q) l):=hr;clear hl hM hN hr hrr hrr0 hcc hcv hk;go_enter func46,ntmps46;go_wp2
 go_loopw [10] (fun iv wr=>Below w.heap.size w wr/\∃j:Nat,j<=N/\iv=.int .i64 j/\Hid (∀i (h:i<l.length),i<j->AF l[i] M=true)) (fun iv _=>N-(intOf iv).toNat)
 case atStart=>exact⟨BZ w,0,gI _,rfl,fun i h hi=>absurd hi (Nat.not_lt_zero _)⟩
 case round=>
  obtain⟨hb,j,hj,rfl,hp⟩:=hrel;by_cases hlt:j<N
  .have hll:j<l.length:=by rw[HN.out];exact hlt
   obtain⟨b,o,rfl,hx⟩:=HR.at hll;have hx':=hx.below hb;have x0:=hx'.at 0 rfl;have x1:=hx'.at 1 rfl;rw[Nat.add_zero]at x0;have z0:=kc hb c0;have hC2:=A8 z0;have hb2:=A8 x0;simp only at hC2 hb2;have n1:C≠wr.heap.size:=oM;have n2:b≠wr.heap.size:=oM;have i1:(0:Int)<=(j:Int):=oM;have i2:(j:Int)<(N:Int):=oM;have KN:=GJ l[j] p0 M q0 HB0;have NX:Hid (AF l[j] M=true->∀i (h:i<l.length),i<j+1->AF l[i] M=true):=fun hq i h hi=>by
    exact Zda
   have NB:Hid (AF l[j] M=false->(l.all fun t=>AF t M)=false):=fun h=>List.all_eq_false.2 ⟨l[j],gD hll,by rw[h];decide⟩;obtain⟨T,hT⟩:=gA (l[j])
   rw[hT]at x0 x1 KN NX NB;obtain⟨X,hX⟩:=gA (AF T M)
   rw[hX]at NX NB;simp only[hX]at KN;obtain⟨K,P⟩:=T;unfold DY at KN;simp only at x0 x1 KN;have HK:Hid (∀w,Calls prog 75 #[.agg #[.int .i64 K,.int .i64 P],.slice p0 M q0] w fun e w'=>e=.returned (.bool X)/\Below w.heap.size w w'):=KN;have HC:Hid (∀v,Below (wr.alloc (.cells #[.int .i64 K,.int .i64 P] 59)).heap.size (wr.alloc (.cells #[.int .i64 K,.int .i64 P] 59)) v->v.cell? ⟨C,0,none⟩=some (.slice p0 M q0)/\v.cell? ⟨wr.heap.size,0,none⟩=some (.int .i64 K)/\v.cell? ⟨wr.heap.size,1,none⟩=some (.int .i64 P)):=
    fun v hv=>⟨kc hv (kc (A0 _ _) z0),kc hv sG,kc hv sG⟩
   have f1:=(HC.out _ (BZ _)).1;clear KN hT hX hp hx hx';cases X
   .go_wp2;refine rG (fun v=>v.cell? ⟨C,0,none⟩=some (.slice p0 M q0)/\v.cell? ⟨wr.heap.size,0,none⟩=some (.int .i64 K)/\v.cell? ⟨wr.heap.size,1,none⟩=some (.int .i64 P)) fun hJ=>?_;refine Tc 0 1 2 ?_;refine Tb 3 4 ?_;clear hJ;refine Aw 5 fun K hK=>?_;go_simp;(go_at_call 75;refine(HK.out _).mono ?_;rintro e w1 ⟨rfl,hb1⟩;have HB1:=bel (A9 _) hb1;obtain⟨y0,y1,y2⟩:=HC.out w1 HB1);try(go_wp2_with fail)
    refine Aq hK fun hJ=>?_;clear hK K;refine Bo 6 ?_;refine wpAnyH_done kR ?_ _;go_wp2;go_ret;exact⟨Ab (NB.out sM).symm,bel hb (bel (A0 _ _) HB1)⟩
   .go_wp2;refine rG (fun v=>v.cell? ⟨C,0,none⟩=some (.slice p0 M q0)/\v.cell? ⟨wr.heap.size,0,none⟩=some (.int .i64 K)/\v.cell? ⟨wr.heap.size,1,none⟩=some (.int .i64 P)) fun hJ=>?_;refine Tc 0 1 2 ?_;refine Tb 3 4 ?_;clear hJ;refine Aw 5 fun K hK=>?_;go_simp;(go_at_call 75;refine(HK.out _).mono ?_;rintro e w1 ⟨rfl,hb1⟩;have HB1:=bel (A9 _) hb1;obtain⟨y0,y1,y2⟩:=HC.out w1 HB1);try(go_wp2_with fail)
    refine Aq hK fun hJ=>?_;clear hK K;refine Bo 6 ?_;refine wpAnyH_done kR ?_ _;go_wp2;go_roundw
    case rel=>exact⟨bel hb (bel (A0 _ _) HB1),j+1,oM,gN,NX.out sM⟩
    case measure=>simp[intOf];omega
  .have:j=N:=oM;subst this;have HF:Hid ((l.all fun t=>AF t M)=true):=List.all_eq_true.2 fun t ht=>by
    obtain⟨i,hi,rfl⟩:=List.mem_iff_getElem.1 ht;exact Zfl
   clear hp;go_wp2;go_ret;exact⟨Ab HF.symm,hb⟩
theorem Ks(C:Nat)(v0 v1 v2 v3:Value)(c:Cd)(hk:Ba c)(w:World)(hc:Cm w C v0 v1 v2 v3 c):
 Calls prog 47 #[.pointer (some ⟨C,0,none⟩)] w fun e w'=>e=.returned (.bool (BK c))/\Below w.heap.size w w':=by
 obtain⟨hcc,hcv⟩:=hc;have c0:=hcc.at 0 rfl;have c1:=hcc.at 2 rfl;rw[Nat.zero_add]at c0 c1;have hC:=A8 c0;simp only at hC;have hr:=hcv.slots;obtain⟨p,q,rfl,hrr⟩:=hcv.slots;obtain⟨p0,q0,rfl,hrr0⟩:=hcv.sign;have HB:=hk.slotsL;have HB0:=hk.signL;have HSB:Hid (∀s∈c.slots,0<=s.bits/\s.bits<4294967296):=hk.sbits;unfold BK;obtain⟨M,hM⟩:=gA (c.sign.length)
 rw[hM]at c0 HB0 |-;obtain⟨l,hl⟩:=gA (c.slots)
 rw[hl]at c1 hr HB HSB |-;obtain⟨N,hN⟩:=gA (l.length)
 have HN:Hid (l.length=N):=hN;rw[hN]at c1 hr HB;have HR:Hid (AV 5 Jf w (.slice p N q) l):=hr;clear hl hM hN hr hrr hrr0 hcc hcv hk;go_enter func47,ntmps47;go_wp2
 go_loopw [10] (fun iv wr=>Below w.heap.size w wr/\∃j:Nat,j<=N/\iv=.int .i64 j/\Hid (∀i (h:i<l.length),i<j->Be l[i] M=true)) (fun iv _=>N-(intOf iv).toNat)
 case atStart=>exact⟨BZ w,0,gI _,rfl,fun i h hi=>absurd hi (Nat.not_lt_zero _)⟩
 case round=>
  obtain⟨hb,j,hj,rfl,hp⟩:=hrel;by_cases hlt:j<N
  .have hll:j<l.length:=by rw[HN.out];exact hlt
   obtain⟨b,o,rfl,hx⟩:=HR.at hll;have hx':=hx.below hb;have x0:=hx'.at 0 rfl;have x1:=hx'.at 1 rfl;have x2:=hx'.at 2 rfl;have x3:=hx'.at 3 rfl;have x4:=hx'.at 4 rfl;rw[Nat.add_zero]at x0;have z0:=kc hb c0;have hC2:=A8 z0;have hb2:=A8 x0;simp only at hC2 hb2;have n1:C≠wr.heap.size:=oM;have n2:b≠wr.heap.size:=oM;have i1:(0:Int)<=(j:Int):=oM;have i2:(j:Int)<(N:Int):=oM;have KN:=GJ l[j].ty p0 M q0 HB0;have KB:=Pe l[j] (HSB.out _ (gD hll)).1 (HSB.out _ (gD hll)).2;have NX:Hid (Be l[j] M=true->∀i (h:i<l.length),i<j+1->Be l[i] M=true):=fun hq i h hi=>by
    exact Zda
   have NB:Hid (Be l[j] M=false->(l.all fun t=>Be t M)=false):=fun h=>List.all_eq_false.2 ⟨l[j],gD hll,by rw[h];decide⟩;obtain⟨T,hT⟩:=gA (l[j])
   rw[hT]at x0 x1 x2 x3 x4 KN KB NX NB;have hsm:Be T M=(AF T.ty M&&EN T):=rfl;rw[hsm]at NX NB;obtain⟨X,hX⟩:=gA (AF T.ty M)
   obtain⟨Y,hY⟩:=gA (EN T)
   rw[hX,hY]at NX NB;simp only[hX]at KN;simp only[hY]at KB;obtain⟨⟨K,P⟩,Q,B,I⟩:=T;unfold DY at KN;unfold Sk at KB;simp only at x0 x1 x2 x3 x4 KN KB;have HK:Hid (∀w,Calls prog 75 #[.agg #[.int .i64 K,.int .i64 P],.slice p0 M q0] w fun e w'=>e=.returned (.bool X)/\Below w.heap.size w w'):=KN;have HBW:Hid (∀w,Calls prog 76 #[.agg #[.int .i64 K,.int .i64 P,.bool Q,.int .u32 B,.int .i64 I]] w fun e w'=>e=.returned (.bool Y)/\Below w.heap.size w w'):=KB;have HC:Hid (∀v,Below (wr.alloc (.cells #[.int .i64 K,.int .i64 P,.bool Q,.int .u32 B,.int .i64 I] 64)).heap.size (wr.alloc (.cells #[.int .i64 K,.int .i64 P,.bool Q,.int .u32 B,.int .i64 I] 64)) v->v.cell? ⟨C,0,none⟩=some (.slice p0 M q0)/\v.cell? ⟨wr.heap.size,0,none⟩=some (.int .i64 K)/\v.cell? ⟨wr.heap.size,1,none⟩=some (.int .i64 P)/\v.cell? ⟨wr.heap.size,2,none⟩=some (.bool Q)/\v.cell? ⟨wr.heap.size,3,none⟩=some (.int .u32 B)/\v.cell? ⟨wr.heap.size,4,none⟩=some (.int .i64 I)):=
    fun v hv=>⟨kc hv (kc (A0 _ _) z0),kc hv sG,kc hv sG,kc hv sG,kc hv sG,kc hv sG⟩
   have f1:=(HC.out _ (BZ _)).1;clear KN KB hT hX hY hp hx hx' hsm;cases X
   .go_wp2;refine rG (fun v=>v.cell? ⟨C,0,none⟩=some (.slice p0 M q0)/\v.cell? ⟨wr.heap.size,0,none⟩=some (.int .i64 K)/\v.cell? ⟨wr.heap.size,1,none⟩=some (.int .i64 P)/\v.cell? ⟨wr.heap.size,2,none⟩=some (.bool Q)/\v.cell? ⟨wr.heap.size,3,none⟩=some (.int .u32 B)/\v.cell? ⟨wr.heap.size,4,none⟩=some (.int .i64 I)) fun hJ=>?_;refine Tf 0 1 2 3 4 5 ?_;clear hJ;refine Aw 6 fun K hK=>?_;go_simp;(go_at_call 75;refine(HK.out _).mono ?_;rintro e w1 ⟨rfl,hb1⟩;have HB1:=bel (A9 _) hb1;obtain⟨y0,y1,y2,y3,y4,y5⟩:=HC.out w1 HB1);try(go_wp2_with fail)
    refine Aq hK fun hJ=>?_;clear hK K;refine Tb 7 8 ?_;refine Ep 9 ?_;refine Ep 10 ?_;refine Ep 11 ?_;refine Bo 12 ?_;refine wpAnyH_done kR ?_ _;go_wp2;go_ret;exact⟨Ab (NB.out sM).symm,bel hb (bel (A0 _ _) HB1)⟩
   .cases Y
    .go_wp2;refine rG (fun v=>v.cell? ⟨C,0,none⟩=some (.slice p0 M q0)/\v.cell? ⟨wr.heap.size,0,none⟩=some (.int .i64 K)/\v.cell? ⟨wr.heap.size,1,none⟩=some (.int .i64 P)/\v.cell? ⟨wr.heap.size,2,none⟩=some (.bool Q)/\v.cell? ⟨wr.heap.size,3,none⟩=some (.int .u32 B)/\v.cell? ⟨wr.heap.size,4,none⟩=some (.int .i64 I)) fun hJ=>?_;refine Tf 0 1 2 3 4 5 ?_;clear hJ;refine Aw 6 fun K hK=>?_;go_simp;(go_at_call 75;refine(HK.out _).mono ?_;rintro e w1 ⟨rfl,hb1⟩;have HB1:=bel (A9 _) hb1;obtain⟨y0,y1,y2,y3,y4,y5⟩:=HC.out w1 HB1);try(go_wp2_with fail)
     refine Aq hK fun hJ=>?_;clear hK K;refine Tc 7 8 9 ?_;clear hJ;refine Aw 10 fun K hK=>?_;go_simp;(go_at_call 76;refine(HBW.out _).mono ?_;rintro e w2 ⟨rfl,hb2⟩;have HB2:=bel HB1 hb2;obtain⟨y0,y1,y2,y3,y4,y5⟩:=HC.out w2 HB2);try(go_wp2_with fail)
     refine Aq hK fun hJ=>?_;clear hK K;refine Tb 11 12 ?_;refine wpAnyH_done kR ?_ _;go_wp2;go_ret;exact⟨Ab (NB.out sM).symm,bel hb (bel (A0 _ _) HB2)⟩
    .go_wp2;refine rG (fun v=>v.cell? ⟨C,0,none⟩=some (.slice p0 M q0)/\v.cell? ⟨wr.heap.size,0,none⟩=some (.int .i64 K)/\v.cell? ⟨wr.heap.size,1,none⟩=some (.int .i64 P)/\v.cell? ⟨wr.heap.size,2,none⟩=some (.bool Q)/\v.cell? ⟨wr.heap.size,3,none⟩=some (.int .u32 B)/\v.cell? ⟨wr.heap.size,4,none⟩=some (.int .i64 I)) fun hJ=>?_;refine Tf 0 1 2 3 4 5 ?_;clear hJ;refine Aw 6 fun K hK=>?_;go_simp;(go_at_call 75;refine(HK.out _).mono ?_;rintro e w1 ⟨rfl,hb1⟩;have HB1:=bel (A9 _) hb1;obtain⟨y0,y1,y2,y3,y4,y5⟩:=HC.out w1 HB1);try(go_wp2_with fail)
     refine Aq hK fun hJ=>?_;clear hK K;refine Tc 7 8 9 ?_;clear hJ;refine Aw 10 fun K hK=>?_;go_simp;(go_at_call 76;refine(HBW.out _).mono ?_;rintro e w2 ⟨rfl,hb2⟩;have HB2:=bel HB1 hb2;obtain⟨y0,y1,y2,y3,y4,y5⟩:=HC.out w2 HB2);try(go_wp2_with fail)
     refine Aq hK fun hJ=>?_;clear hK K;refine Tb 11 12 ?_;refine wpAnyH_done kR ?_ _;go_wp2;go_roundw
     case rel=>exact⟨bel hb (bel (A0 _ _) HB2),j+1,oM,gN,NX.out sM⟩
     case measure=>simp[intOf];omega
  .have:j=N:=oM;subst this;have HF:Hid ((l.all fun t=>Be t M)=true):=List.all_eq_true.2 fun t ht=>by
    obtain⟨i,hi,rfl⟩:=List.mem_iff_getElem.1 ht;exact Zfl
   clear hp;go_wp2;go_ret;exact⟨Ab HF.symm,hb⟩
theorem JE(C:Nat)(v0 v1 v2 v3:Value)(c:Cd)(hk:Ba c)(w:World)(hc:Cm w C v0 v1 v2 v3 c):
 Calls prog 26 #[.pointer (some ⟨C,0,none⟩)] w fun e w'=>e=.returned (.int .i64 (CG c))/\Below w.heap.size w w':=by
 have K1:=Qy v0 c.sign hk.signL hk.names w hc.2.sign.rd;have K2:=fun w h=>KH C v0 v1 v2 v3 c hk w h;have K3:=fun w h=>Ks C v0 v1 v2 v3 c hk w h;unfold CG;obtain⟨E,hE⟩:=gA (B0 c.sign)
 obtain⟨X,hX⟩:=gA (Ax c)
 obtain⟨Y,hY⟩:=gA (BK c)
 simp only[hE]at K1 |-;simp only[hX]at K2 |-;simp only[hY]at K3 |-;have HC0:Hid (Cm w C v0 v1 v2 v3 c):=hc;obtain⟨hcc,hcv⟩:=hc;have b1:=hk.regsL;have b2:=hk.slotsL;have b3:=hk.listL;obtain⟨p1,q1,rfl,r1⟩:=hcv.regs;obtain⟨p2,q2,rfl,r2⟩:=hcv.slots;obtain⟨p3,q3,rfl,r3⟩:=hcv.list;have c0:=hcc.at 0 rfl;have c1:=hcc.at 1 rfl;have c2:=hcc.at 2 rfl;have c3:=hcc.at 3 rfl;rw[Nat.zero_add]at c0 c1 c2 c3;obtain⟨N1,h1⟩:∃N,c.regs.length=N:=⟨_,rfl⟩
 obtain⟨N2,h2⟩:∃N,c.slots.length=N:=⟨_,rfl⟩
 obtain⟨N3,h3⟩:∃N,c.list.length=N:=⟨_,rfl⟩
 rw[h1]at K2 K3 c1 b1 HC0 |-;rw[h2]at K2 K3 c2 b2 HC0 |-;rw[h3]at K2 K3 c3 b3 HC0 |-;have HK1:Hid (Calls prog 45 #[v0] w fun e w'=>e=.returned (.int .i64 E)/\Below w.heap.size w w'):=K1;have HK2:Hid (∀w,Cm w C v0 (.slice p1 N1 q1) (.slice p2 N2 q2) (.slice p3 N3 q3) c->Calls prog 46 #[.pointer (some ⟨C,0,none⟩)] w fun e w'=>e=.returned (.bool X)/\Below w.heap.size w w'):=K2;have HK3:Hid (∀w,Cm w C v0 (.slice p1 N1 q1) (.slice p2 N2 q2) (.slice p3 N3 q3) c->Calls prog 47 #[.pointer (some ⟨C,0,none⟩)] w fun e w'=>e=.returned (.bool Y)/\Below w.heap.size w w'):=K3;have HC:Hid (∀v,Below w.heap.size w v->v.cell? ⟨C,1,none⟩=some (.slice p1 N1 q1)/\v.cell? ⟨C,2,none⟩=some (.slice p2 N2 q2)/\v.cell? ⟨C,3,none⟩=some (.slice p3 N3 q3)):=fun v hv=>⟨kc hv c1,kc hv c2,kc hv c3⟩
 clear K1 K2 K3 hE hX hY h1 h2 h3 r1 r2 r3 hcc hcv hk;by_cases hE:E=0
 .subst hE;rw[if_neg sM];by_cases s1:16384<N1\/32768<N3
  .rw[if_pos s1];by_cases s2:16384<N1
   .have s2':(16384:Int)<(N1:Int):=oM;clear s1 s2;exact Zcv
   .have s2':¬ (16384:Int)<(N1:Int):=oM;have s3':(32768:Int)<(N3:Int):=oM;clear s1 s2;exact Zcv
  .rw[if_neg s1];have s2':¬ (16384:Int)<(N1:Int):=oM;have s3':¬ (32768:Int)<(N3:Int):=oM;clear s1;by_cases s4:4096<N2
   .rw[if_pos s4];have s4':(4096:Int)<(N2:Int):=oM;clear s4;exact Zcv
   .rw[if_neg s4];have s4':¬ (4096:Int)<(N2:Int):=oM;clear s4;cases X
    .go_enter func26,ntmps26;go_wp2_with(first
      |(go_at_call 45;refine HK1.mono ?_;rintro e w1 ⟨rfl,hb1⟩;obtain⟨d1,d2,d3⟩:=HC.out w1 hb1)
      |(go_at_call 46;refine(HK2.out _ (HC0.below hb1)).mono ?_;rintro e w2 ⟨rfl,hb2⟩;have HB2:=bel hb1 hb2)
      |(go_at_call 47;refine(HK3.out _ (HC0.below HB2)).mono ?_;rintro e w3 ⟨rfl,hb3⟩;have HB3:=bel HB2 hb3))
     all_goals(go_ret;exact⟨rfl,HB2⟩)
    .cases Y
     .exact Zcm
     .exact Zcm
 .rw[if_pos hE];have hE':(E==0)=false:=by simpa using hE
  go_enter func26,ntmps26;go_wp2_with(go_at_call 45;refine HK1.mono ?_;rintro e w1 ⟨rfl,hb1⟩)
  all_goals(go_ret;exact⟨rfl,hb1⟩)
theorem EX:(prog.info? 4).map (fun i=>(i.zero,i.size,i.bytes))=some (some (.bool false),1,1):=kR
theorem JT(m:Nat)(h:m<=70368744177664)(w:World):(Instr.makeSlice 36 (.int .i64 m) (.int .i64 m)).run prog w=.ok (.slice (some ⟨w.heap.size,0,none⟩) m m) (w.alloc (.cells (madeCells #[.bool false] m) 4)):=
 run_make_row' (P:=prog) 36 4 (.bool false) 1 underlying36 EX rfl .i64 .i64 m oM oM w
theorem WS.start(w:World)(C n:Nat):WS w.heap.size (w.heap.size+1) C n w.heap.size (.slice none 0 0) (.slice none 0 0) ((w.alloc (.cells (madeCells #[.bool false] n) 4)).alloc (.cells #[.pointer (some ⟨C,0,none⟩),.slice (some ⟨w.heap.size,0,none⟩) n n,.slice none 0 0,.slice none 0 0] 82)) ⟨[],[]⟩:=by
 have h1:=(World.rowIs_made w (.bool false) n 4).alloc (.cells #[.pointer (some ⟨C,0,none⟩),.slice (some ⟨w.heap.size,0,none⟩) n n,.slice none 0 0,.slice none 0 0] 82);have h2:=World.rowIs_alloc (w.alloc (.cells (madeCells #[.bool false] n) 4)) #[.pointer (some ⟨C,0,none⟩),.slice (some ⟨w.heap.size,0,none⟩) n n,.slice none 0 0,.slice none 0 0] 82 (wkF C w.heap.size n (.slice none 0 0) (.slice none 0 0)) (fun i hi=>by
  have hi':i<4:=hi;obtain rfl|rfl|rfl|rfl:i=0\/i=1\/i=2\/i=3:=oM
  all_goals rfl)
 have hs:(w.alloc (.cells (madeCells #[.bool false] n) 4)).heap.size=w.heap.size+1:=sM;rw[hs]at h2;exact⟨h2,h1.congr fun j _=>by simp,World.ownsRow_nil _ _ _ 1,World.ownsRow_nil _ _ _ 3,oM,gF _,oM,by simp[Value.ownBlock],by simp[Value.ownBlock],by simp[Value.ownBlock],by simp[Value.ownBlock],by simp[Value.ownBlock]⟩
theorem Lp(v0 v1 v2 v3:Value)(c:Cd)(hk:Ba c)(w:World)(hv:CE w v0 v1 v2 v3 c):
 Calls prog 12 #[.agg #[v0,v1,v2,v3]] w fun e w'=>e=.returned (.tuple #[.int .i64 (Ai c).1,.int .i64 (Ai c).2])/\Below w.heap.size w w':=by
 have hat:Cm (w.alloc (.cells #[v0,v1,v2,v3] 27)) w.heap.size v0 v1 v2 v3 c:=by
  refine⟨fun j hj=>?_,hv.below (A0 _ _)⟩;have hj':j<4:=hj;obtain rfl|rfl|rfl|rfl:j=0\/j=1\/j=2\/j=3:=oM
  all_goals simp[go_sem]
 have K1:=JE w.heap.size v0 v1 v2 v3 c hk _ hat;unfold Ai;obtain⟨A,hA⟩:=gA (CG c)
 rw[hA]at K1 |-;have HK1:Hid (Calls prog 26 #[.pointer (some ⟨w.heap.size,0,none⟩)] (w.alloc (.cells #[v0,v1,v2,v3] 27)) fun e w'=>e=.returned (.int .i64 A)/\Below (w.alloc (.cells #[v0,v1,v2,v3] 27)).heap.size (w.alloc (.cells #[v0,v1,v2,v3] 27)) w'):=K1;clear K1;by_cases h0:A=0
 .rw[if_neg (by simp[h0])];have hsz:c.regs.length<=16384/\c.list.length<=32768/\Ax c=true:=by
   rw[h0]at hA;unfold CG at hA;split at hA
   .rename_i e1;exact absurd hA e1
   .split at hA
    .exact absurd hA dE
    .split at hA
     .exact absurd hA dE
     .split at hA
      .rename_i e1 e2 e3 e4;simp only[Bool.and_eq_true]at e4;exact⟨oM,oM,e4.1⟩
      .exact absurd hA dE
  obtain⟨hn,hN,htm⟩:=hsz;clear hA;subst h0;have KT:=fun E G gi vs vo s b o i w h ok hc hi hb hb0 hb1=>OR E G w.heap.size c.regs.length gi vs vo s v0 v1 v2 v3 c hk b o i w h rfl ok hn hc hi hb htm hb0 hb1;clear KT;have hr:=hv.list;obtain⟨p3,q3,rfl,hr3⟩:=hv.list;obtain⟨p1,q1,rfl,hr1⟩:=hv.regs;have HAT:Hid (Cm (w.alloc (.cells #[v0,.slice p1 c.regs.length q1,v2,.slice p3 c.list.length q3] 27)) w.heap.size v0 (.slice p1 c.regs.length q1) v2 (.slice p3 c.list.length q3) c):=hat;obtain⟨Pr,hPr⟩:∃P,L6 c ⟨[],[]⟩ 0 c.list=P:=⟨_,rfl⟩
  rw[hPr];have HP:Hid (L6 c ⟨[],[]⟩ 0 c.list=Pr):=hPr;have HROW:Hid (AV 7 C9 w (.slice p3 c.list.length q3) c.list):=hr;have HIB:Hid (∀i∈c.list,0<=i.bits/\i.bits<4294967296):=hk.ibits;obtain⟨n,hnn⟩:=gA (c.regs.length)
  obtain⟨N,hNN⟩:=gA (c.list.length)
  have HNE:Hid (c.regs.length=n):=hnn;have HNL:Hid (c.list.length=N):=hNN;rw[hnn]at hn HK1 HAT;rw[hNN]at hN HK1 HAT HROW;rw[hnn,hNN];have mk:=fun w=>JT n oM w;have HOKC:Hid (Ba c):=hk;have HTM:Hid (Ax c=true):=htm;have f1:=HAT.1.at 1 rfl;have f3:=HAT.1.at 3 rfl;rw[Nat.zero_add]at f1 f3;have HC:Hid (∀v,Below (w.alloc (.cells #[v0,.slice p1 n q1,v2,.slice p3 N q3] 27)).heap.size (w.alloc (.cells #[v0,.slice p1 n q1,v2,.slice p3 N q3] 27)) v->v.cell? ⟨w.heap.size,1,none⟩=some (.slice p1 n q1)/\v.cell? ⟨w.heap.size,3,none⟩=some (.slice p3 N q3)):=fun v hv=>⟨kc hv f1,kc hv f3⟩
  clear hat hv hr hr3 hr1 hPr hnn hNN hk htm f1 f3;go_enter func12,ntmps12;go_wp2_with(go_at_call 26;refine HK1.mono ?_;rintro e w1 ⟨rfl,hb1⟩;obtain⟨g1,g3⟩:=HC.out w1 hb1;have g4:((w1.alloc (.cells (madeCells #[.bool false] n) 4)).alloc (.cells #[.pointer (some ⟨w.heap.size,0,none⟩),.slice (some ⟨w1.heap.size,0,none⟩) n n,.slice none 0 0,.slice none 0 0] 82)).cell? ⟨w.heap.size,3,none⟩=some (.slice p3 N q3):=kc (A0 _ _) (kc (A0 _ _) g3));have HB1:Hid (Below w.heap.size w w1):=bel (A0 _ _) hb1;have HAT1:Hid (Cm w1 w.heap.size v0 (.slice p1 n q1) v2 (.slice p3 N q3) c):=HAT.below hb1;have hs1:w.heap.size<w1.heap.size:=by have:=hb1.size;simp at this;omega
  have HS0:=WS.start w1 w.heap.size n;have HB0:Below w1.heap.size w1 ((w1.alloc (.cells (madeCells #[.bool false] n) 4)).alloc (.cells #[.pointer (some ⟨w.heap.size,0,none⟩),.slice (some ⟨w1.heap.size,0,none⟩) n n,.slice none 0 0,.slice none 0 0] 82)):=bel (A0 _ _) (A0 _ _);obtain⟨W2,hW2⟩:=gA ((w1.alloc (.cells (madeCells #[.bool false] n) 4)).alloc (.cells #[.pointer (some ⟨w.heap.size,0,none⟩),.slice (some ⟨w1.heap.size,0,none⟩) n n,.slice none 0 0,.slice none 0 0] 82))
  rw[hW2]at HS0 HB0;try rw[hW2]
  clear HK1 HC hb1 mk HAT g4 hW2
  go_loopw [19] (fun iv wr=>∃ (j:Nat) (s:Wk) (vs vo:Value),j<=N/\iv=.int .i64 j/\Below w1.heap.size w1 wr/\WS w1.heap.size (w1.heap.size+1) w.heap.size n w1.heap.size vs vo wr s/\E5 n s/\Hid (L6 c s j (c.list.drop j)=Pr)) (fun iv _=>N-(intOf iv).toNat)
  case atStart=>exact⟨0,⟨[],[]⟩,_,_,gI _,rfl,HB0,HS0,E5.start n,by show _=_;rw[List.drop_zero];exact HP.out⟩
  case round=>
   obtain⟨j,s,vs,vo,hj,rfl,hb,hws,hok,hgo⟩:=hrel;have HWS:Hid (WS w1.heap.size (w1.heap.size+1) w.heap.size n w1.heap.size vs vo wr s):=hws;have HOK:Hid (E5 n s):=hok;have HBW:Hid (Below w1.heap.size w1 wr):=hb;have d3:=kc hb g3;have l3:=hws.c3;have hol:∃p q,vo=.slice p s.opens.length q:=AZ hws.opn;have hnest:=hok.nest;clear HS0 HB0;by_cases hlt:j<N
   .have hll:j<c.list.length:=by rw[HNL.out];exact hlt
    have hgo':=hgo.out;rw[List.drop_eq_getElem_cons hll]at hgo';have hgi:L6 c s j (c.list[j]::c.list.drop (j+1))=if AG c s c.list[j]then L6 c (Aj s c.list[j]) (j+1) (c.list.drop (j+1))else(160,(j:Int)):=rfl;rw[hgi]at hgo';obtain⟨b,o,rfl,hx⟩:=HROW.at hll;have hbw:b<w.heap.size:=A8 (hx 0 (by simp[C9]));have hxw:=(hx.below HB1.out).below hb;have KT:=OR w1.heap.size (w1.heap.size+1) w.heap.size n w1.heap.size vs vo s v0 (.slice p1 n q1) v2 (.slice (some ⟨b,o,none⟩) N q3) c HOKC.out b (o+j*7) c.list[j] wr hws HNE.out hok hn (HAT1.below hb) hxw oM HTM.out (HIB.out _ (gD hll)).1 (HIB.out _ (gD hll)).2;have hokS:AG c s c.list[j]=true->E5 n (Aj s c.list[j]):=fun ht=>by
     have hq:E5 c.regs.length s:=by rw[HNE.out];exact hok
     have:=E5.step hq ht;rw[HNE.out]at this;exact this
    obtain⟨X,hX⟩:=gA (AG c s c.list[j])
    rw[hX]at hgo' hokS;simp only[hX]at KT;have HKT:Hid (Calls prog 27 #[.pointer (some ⟨w1.heap.size+1,0,none⟩),.pointer (some ⟨b,o+j*7,none⟩)] wr fun e w'=>e=.returned (.bool X)/\Below w1.heap.size wr w'/\(X=true->∃vs' vo',WS w1.heap.size (w1.heap.size+1) w.heap.size n w1.heap.size vs' vo' w' (Aj s c.list[j]))):=KT;have HGO:Hid ((if X=true then L6 c (Aj s c.list[j]) (j+1) (c.list.drop (j+1))else(160,(j:Int)))=Pr):=hgo';have HOS:Hid (X=true->E5 n (Aj s c.list[j])):=hokS;have i1:(0:Int)<=(j:Int):=oM;have i2:(j:Int)<(N:Int):=oM;clear KT hgo hgo' hgi hokS hX hx hxw hws hok hb hol l3;cases X
    .go_wp2_with(go_at_call 27;refine HKT.mono ?_;rintro e w5 ⟨rfl,hb5,hw5⟩;have HB5:Hid (Below w1.heap.size wr w5):=hb5;clear hb5 hw5)
     go_ret2
     refine⟨?_,bel HB1.out (HBW.trans HB5.out)⟩;have:=HGO.out;rw[if_neg dE]at this;rw[<-this];rfl
    .go_wp2_with(go_at_call 27;refine HKT.mono ?_;rintro e w5 ⟨rfl,hb5,hw5⟩;have HB5:Hid (Below w1.heap.size wr w5):=hb5;have HW5:Hid (∃vs' vo',WS w1.heap.size (w1.heap.size+1) w.heap.size n w1.heap.size vs' vo' w5 (Aj s c.list[j])):=hw5 fT;clear hb5 hw5);go_roundw
     case rel=>
      obtain⟨vs',vo',hw5⟩:=HW5.out;exact⟨j+1,_,vs',vo',oM,gN,HBW.trans HB5.out,hw5,HOS.out fT,by show _=_;have:=HGO.out;rw[if_pos fT]at this;exact this⟩
     case measure=>simp[intOf];omega
   .have:j=N:=oM;subst this;have hgo':=hgo.out;rw[List.drop_of_length_le (by rw[HNL.out];exact gF _)]at hgo';have hgi:L6 c s j []=if s.opens.isEmpty then(0,0)else(160,(j:Int)):=rfl;rw[hgi]at hgo';obtain⟨p,q,rfl⟩:=hol;obtain⟨M,hM⟩:=gA (s.opens.length)
    rw[hM]at l3 hnest;have hE:s.opens.isEmpty=decide (M=0):=by
     rw[<-hM];cases s.opens with
     |nil=>rfl
     |cons a l=>simp
    rw[hE]at hgo';have HGO:Hid ((if decide (M=0)=true then((0:Int),(0:Int))else(160,(j:Int)))=Pr):=hgo';clear hgo hgo' hgi hE hM hws hok hb;by_cases hz:M=0
    .subst hz;go_wp2
     go_ret2
     refine⟨?_,bel HB1.out HBW.out⟩;rw[<-HGO.out];rfl
    .have hz':(0:Int)<(M:Int):=oM;have hz2:0<M:=oM;have HZ:Hid (¬M=0):=hz;clear hz;go_wp2;refine rG (fun v=>v.cell? ⟨w.heap.size,3,none⟩=some (.slice p3 j q3)) fun hJ=>?_;refine Tc 0 1 2 ?_;refine Tb 3 4 ?_;refine wpAnyH_done kR ?_ _;go_wp2
     go_ret2
     refine⟨?_,(bel HB1.out HBW.out).drew⟩;have:=HGO.out;rw[if_neg (by simpa using HZ.out)]at this;rw[<-this];rfl
 .rw[if_pos h0];have h0':(A==0)=false:=by simpa using h0
  go_enter func12,ntmps12;go_wp2_with(go_at_call 26;refine HK1.mono ?_;rintro e w1 ⟨rfl,hb1⟩)
  all_goals(go_ret2;exact⟨rfl,bel (A0 _ _) hb1⟩)
def Ch(i:Ad):Value:=.agg #[.int .i64 i.op,.int .i64 i.d,.int .i64 i.a,.int .i64 i.b,.int .i64 i.c,.int .i64 i.n,.int .u32 i.bits]
theorem Tk{w v:World}{i:Ad}{t:TypeId}(k:Below (w.alloc (.cells #[.int .i64 i.op,.int .i64 i.d,.int .i64 i.a,.int .i64 i.b,.int .i64 i.c,.int .i64 i.n,.int .u32 i.bits] t)).heap.size (w.alloc (.cells #[.int .i64 i.op,.int .i64 i.d,.int .i64 i.a,.int .i64 i.b,.int .i64 i.c,.int .i64 i.n,.int .u32 i.bits] t)) v):Ar v w.heap.size 0 (C9 i):=by
 refine Ar.below (fun j hj=>?_) k;have hj':j<7:=hj;obtain rfl|rfl|rfl|rfl|rfl|rfl|rfl:j=0\/j=1\/j=2\/j=3\/j=4\/j=5\/j=6:=oM
 all_goals simp[go_sem,C9]
theorem OG(i:Ad)(w:World):Calls prog 31 #[Ch i] w fun e w'=>e=.returned (.bool ((A4 i.op).d != 0))/\Below w.heap.size w w':=by
 have K1:=fun w=>Iy i.op w;obtain⟨r,hr⟩:=gA (A4 i.op)
 obtain⟨X,hX⟩:=gA (Al i.op)
 simp only[hr,hX]at K1 |-;obtain⟨L0,L1,L2,L3,L4⟩:=r;obtain⟨op,D,A,B,E,n,bt⟩:=i;unfold Ch;unfold DN at K1;simp only at K1 |-;have HK:Hid (∀w,Calls prog 48 #[.int .i64 op] w fun e w'=>e=.returned (.tuple #[.agg #[.int .i64 L0,.int .i64 L1,.int .i64 L2,.int .i64 L3,.int .i64 L4],.bool X])/\Below w.heap.size w w'):=K1;clear K1 hr hX;go_enter func31,ntmps31;go_wp2_with(go_at_call 48;refine(HK.out _).mono ?_;rintro e w1 ⟨rfl,hb1⟩);go_ret;exact⟨rfl,bel (bel (A0 _ _) hb1) (A0 _ _)⟩
theorem M4(i:Ad)(w:World):Calls prog 32 #[Ch i] w fun e w'=>∃v,e=.returned v/\w'.ownsRow w.heap.size 3 1 v (Ae i (A4 i.op)).length (Cg (Ae i (A4 i.op)))/\Below w.heap.size w w':=by
 have K1:=fun w=>Iy i.op w;have K2:=fun w h=>GU w.heap.size 0 i (A4 i.op) w h;clear K2;have K3:=fun b v h=>GU b 0 i (A4 i.op) v h;have HIC:=fun(v:World) k=>Tk (w:=w) (v:=v) (i:=i) (t:=40) k;obtain⟨r,hr⟩:=gA (A4 i.op)
 obtain⟨X,hX⟩:=gA (Al i.op)
 simp only[hr,hX]at K1 K3 |-;obtain⟨RL,hRL⟩:∃x,Ae i r=x:=⟨_,rfl⟩
 simp only[hRL]at K3 |-;obtain⟨L0,L1,L2,L3,L4⟩:=r;obtain⟨op,D,A,B,E,n,bt⟩:=i;unfold Ch;unfold DN at K1 K3;simp only at K1 K3 HIC |-;have HK:Hid (∀w,Calls prog 48 #[.int .i64 op] w fun e w'=>e=.returned (.tuple #[.agg #[.int .i64 L0,.int .i64 L1,.int .i64 L2,.int .i64 L3,.int .i64 L4],.bool X])/\Below w.heap.size w w'):=K1;have HK3:Hid (∀b v,Ar v b 0 (C9 ⟨op,D,A,B,E,n,bt⟩)->Calls prog 51 #[.agg #[.int .i64 L0,.int .i64 L1,.int .i64 L2,.int .i64 L3,.int .i64 L4],.pointer (some ⟨b,0,none⟩)] v fun e w'=>∃u,e=.returned u/\w'.ownsRow v.heap.size 3 1 u RL.length (Cg RL)/\Below v.heap.size v w'):=K3;have HCC:Hid (∀v,Below (w.alloc (.cells #[.int .i64 op,.int .i64 D,.int .i64 A,.int .i64 B,.int .i64 E,.int .i64 n,.int .u32 bt] 40)).heap.size (w.alloc (.cells #[.int .i64 op,.int .i64 D,.int .i64 A,.int .i64 B,.int .i64 E,.int .i64 n,.int .u32 bt] 40)) v->Ar v w.heap.size 0 (C9 ⟨op,D,A,B,E,n,bt⟩)):=HIC;clear K1 K3 HIC hr hX hRL;go_enter func32,ntmps32;go_wp2_with(first
  |(go_at_call 48;refine(HK.out _).mono ?_;rintro e w1 ⟨rfl,hb1⟩)
  |(go_at_call 51;refine(HK3.out _ _ (HCC.out _ (bel hb1 (A0 _ _)))).mono ?_;rintro e w2 ⟨u,rfl,hu,hb2⟩;have HU:Hid (w2.ownsRow (w1.alloc (.cells #[.int .i64 L0,.int .i64 L1,.int .i64 L2,.int .i64 L3,.int .i64 L4] 119)).heap.size 3 1 u RL.length (Cg RL)):=hu;have HB2:Hid (Below w.heap.size w w2):=bel (bel (bel (A0 _ _) hb1) (A0 _ _)) hb2;have hs:w.heap.size<=(w1.alloc (.cells #[.int .i64 L0,.int .i64 L1,.int .i64 L2,.int .i64 L3,.int .i64 L4] 119)).heap.size:=(bel (bel (A0 _ _) hb1) (A0 _ _)).size;have HSZ:Hid (w.heap.size<=(w1.alloc (.cells #[.int .i64 L0,.int .i64 L1,.int .i64 L2,.int .i64 L3,.int .i64 L4] 119)).heap.size):=hs;clear hu hb2 hs))
 go_ret;exact⟨_,rfl,CN HU.out HSZ.out,HB2.out⟩
def Au{α:Type}(f:α->List Value)(l:List α):List Value:=l.flatMap f
theorem Dz{α:Type}{f:α->List Value}{k:Nat}(hf:∀x,(f x).length=k):∀l:List α,(Au f l).length=l.length*k
 |[]=>by simp[Au]
 |a::l=>by
  have e:Au f (a::l)=f a++Au f l:=by simp[Au]
  rw[e,List.length_append,Dz hf l,hf,List.length_cons,Nat.add_mul,Nat.one_mul,Nat.add_comm]
theorem Gk{α:Type}{f:α->List Value}{k:Nat}(hf:∀x,(f x).length=k):∀ (l:List α) (i j:Nat) (hi:i<l.length),j<k->(Au f l)[i*k+j]? =(f l[i])[j]?
 |[],i,j,hi,hj=>absurd hi (Nat.not_lt_zero _)
 |a::l,0,j,hi,hj=>by
  have e:Au f (a::l)=f a++Au f l:=by simp[Au]
  rw[e,Nat.zero_mul,Nat.zero_add,List.getElem?_append_left (by rw[hf];exact hj)];rfl
 |a::l,i+1,j,hi,hj=>by
  have e:Au f (a::l)=f a++Au f l:=by simp[Au]
  have e2:(i+1)*k+j-(f a).length=i*k+j:=by rw[hf,Nat.add_mul,Nat.one_mul];omega
  rw[e,List.getElem?_append_right (by rw[hf,Nat.add_mul,Nat.one_mul];omega),e2];exact Gk hf l i j (by simpa using hi) hj
theorem FS{α:Type}(f:α->List Value)(l m:List α):Au f (l++m)=Au f l++Au f m:=by simp[Au]
theorem Dv{α:Type}{f:α->List Value}{k:Nat}(hf:∀x,(f x).length=k){w:World}{B:Nat}{t:TypeId}{v:Value}{l:List α}(h:w.ownsRow B t k v l.length (Au f l)):AV k f w v l:=by
 by_cases h0:l=[]
 .subst h0;obtain⟨p,c,hv⟩:=AZ h;exact⟨p,c,hv,.inl rfl⟩
 .obtain⟨g,cap,hv,_,_,_,_,hcl⟩:=Dc h (List.length_pos_iff.2 h0);refine⟨_,cap,hv,.inr ⟨g,0,rfl,fun i hi j hj=>?_⟩⟩;rw[Nat.zero_add];exact hcl _ _ (by rw[Gk hf l i j hi (by rw[<-hf l[i]];exact hj)];exact gB hj)
theorem Nm(b o j:Nat):(⟨b,o,none⟩:Addr).add j=⟨b,o+j,none⟩:=by unfold Addr.add;split<;>simp_all
theorem M8{α:Type}{f:α->List Value}{k:Nat}(hk:0<k)(hf:∀x,(f x).length=k){w:World}{b o:Nat}{l:List α}(h:∀i (hi:i<l.length),Ar w b (o+i*k) (f l[i]))(j:Nat)(u:Value)(hu:(Au f l)[j]? =some u):w.cell? ((⟨b,o,none⟩:Addr).add j)=some u:=by
 have hj:j<l.length*k:=by have:=(List.getElem?_eq_some_iff.1 hu).1;rwa[Dz hf]at this
 have hi:j/k<l.length:=Nat.div_lt_of_lt_mul (by rw[Nat.mul_comm];exact hj);have hm:j%k<k:=Nat.mod_lt _ hk;have e:j=j/k*k+j%k:=by rw[Nat.mul_comm];exact(Nat.div_add_mod j k).symm
 rw[e,Gk hf l _ _ hi hm]at hu;rw[Nm];have:=(h _ hi).at _ hu;rw[Nat.add_assoc,<-e]at this;exact this
theorem Nu{α:Type}{f:α->List Value}{k bytes:Nat}{t e:TypeId}{z:Value}{i:TypeInfo}(hk:0<k)(hf:∀x,(f x).length=k)(h1:∀x,∀u∈f x,u.oneCell'=true)(ht:prog.underlying t=some (.slice e))(hi:prog.info? e=some i)(hz:i.zero=some z)(hsize:i.size=k)(hby:i.bytes=bytes)(hzs:z.cells.size=k)
 {l:List α} {v:Value} {w:World} (h:AV k f w v l) (hl:l.length<=maxLen) (hb:l.length*bytes<=140737488355328) (ty:TypeId):
 ∃v' w',(Builtin.append_ #[t,t] ty #[.slice none 0 0,v]).run prog w=.ok v' w'/\Below w.heap.size w w'/\w'.ownsRow w.heap.size e k v' l.length (Au f l):=by
 obtain⟨p,c,rfl,h⟩:=h;by_cases h0:l=[]
 .subst h0;refine⟨.slice none 0 0,w,?_,Below.refl _ _,⟨by simp[Au],.inl ⟨rfl,rfl⟩⟩⟩;exact Zdm
 .obtain⟨b,o,rfl,h2⟩:=h.resolve_left h0;have hpos:0<l.length:=List.length_pos_iff.2 h0;obtain⟨g,cap,w',hr,hown,hg,hat,hlt⟩:=run_append_lies (P:=prog) w t ty w.heap.size e i z k bytes ht hi hz hsize hby hzs hk (.slice none 0 0) 0 [] (World.ownsRow_nil w _ _ k) ⟨b,o,none⟩ l.length c (Au f l) (Dz hf l) (M8 hk hf h2) Zhf hpos oM (by rw[Nat.zero_add];exact hb) (gF _) w.heap.size rfl;rw[Nat.zero_add]at hr hown;exact⟨_,w',hr,⟨hg.os,hg.tape,hg.output,hg.size,fun j hj=>hg.block j hj (by show some j≠none;simp)⟩,by rw[List.nil_append]at hown;exact hown⟩
theorem AO{P:Program}{w w':World}{ops:Array Oper}{rest:List Oper}{o:Oper}{a:Act}{Q:Exit->Act->World->Prop}(hgd:o.guard=none)(s x:Operand)(t:TypeId)
 (ho:o.op=.call {callee:=.builtin .append,args:=#[s,x],argTypes:=#[t,t]}) (v v2 v':Value) (hs:a.eval s=v) (hx:a.eval x=v2) (hr:(Builtin.append_ #[t,t] o.type #[v,v2]).run P w=.ok v' w')
 (h:wpList P ops Q rest (a.put o.dst v') w'):wpList P ops Q (o::rest) a w:=
 wpList_plain hgd fun _ hK=>by
  unfold Oper.wp execOp;simp only[ho,resolve,invoke,builtin,Sem.run_bind,Sem.run_pure,Result.andThen_ok,List.map_toArray,List.map_cons,List.map_nil,hs,hx,hr];exact hK _ _ h
theorem Te:(prog.info? 40).map (fun i=>(i.zero,i.size,i.bytes))=some (some (.agg #[.int .i64 0,.int .i64 0,.int .i64 0,.int .i64 0,.int .i64 0,.int .i64 0,.int .u32 0]),7,56):=kR


def OF(i:Ad):Bool:=(A4 i.op).d != 0
theorem TM(op:Int)(w:World):Calls prog 88 #[.int .i64 op] w fun e w'=>e=.returned (.bool (Bq op))/\w'=w:=by
 unfold Bq;by_cases h:3<=op
 all_goals
  go_enter func88,ntmps88;exact Zek
theorem u8ne(a:UInt8)(X:Bool)(h:(a==45)=X):((a.toNat:Int) != 45)= !X:=by
 rw[<-h];have:((a.toNat:Int)==45)=(a==45):=by
  rw[Bool.eq_iff_iff];simp only[beq_iff_eq];constructor
  .intro e;apply UInt8.toNat_inj.1;show a.toNat=45;omega
  .intro e;subst e;rfl
 simp[bne,this]
theorem Mb(i:Ad)(w:World):Calls prog 22 #[Ch i] w fun e w'=>e=.returned (.bool (OF i))/\Below w.heap.size w w':=by
 unfold OF;rcases Ov i.op (w.alloc (.cells #[.int .i64 i.op,.int .i64 i.d,.int .i64 i.a,.int .i64 i.b,.int .i64 i.c,.int .i64 i.n,.int .u32 i.bits] 40))with⟨hk,hc⟩|⟨hk,a,b,c,d,e,ht,hc⟩
 .rw[Hy i.op hk];obtain⟨op,D,A,B,E,n,bt⟩:=i;unfold Ch;simp only at hc hk |-;have HK:Hid (Calls prog 38 #[.int .i64 op] (w.alloc (.cells #[.int .i64 op,.int .i64 D,.int .i64 A,.int .i64 B,.int .i64 E,.int .i64 n,.int .u32 bt] 40)) fun e w'=>e=.returned (.tuple #[.string ⟨#[]⟩,.bool false])/\w'=w.alloc (.cells #[.int .i64 op,.int .i64 D,.int .i64 A,.int .i64 B,.int .i64 E,.int .i64 n,.int .u32 bt] 40)):=hc;clear hc;go_enter func22,ntmps22;go_wp2_with(go_at_call 38;refine HK.mono ?_;rintro e w1 ⟨rfl,rfl⟩);go_ret;exact⟨rfl,A0 _ _⟩
 .have h1:=u8ne a _ ht.a;obtain⟨X,hX⟩:=gA ((A4 i.op).d)
  rw[hX]at h1 |-;obtain⟨op,D,A,B,E,n,bt⟩:=i;unfold Ch;simp only at hc |-;have HK:Hid (∀w,Calls prog 38 #[.int .i64 op] w fun x w'=>x=.returned (.tuple #[.string ⟨#[a,b,c,d,e]⟩,.bool true])/\w'=w):=hc;have ix:∀w,(Instr.index 9 (.string ⟨#[a,b,c,d,e]⟩) (.int .i64 0)).run prog w=.ok (.int .u8 (a.toNat:Int)) w:=fun w=>by simp[Instr.index,run_underlying underlying9,asIntOf,go_sem];rfl
  clear hc ht hX;go_enter func22,ntmps22;go_wp2_with(go_at_call 38;refine(HK.out _).mono ?_;rintro e w1 ⟨rfl,rfl⟩);go_ret;refine⟨Ab ?_,A0 _ _⟩;first|exact h1|(simp only[h1];rfl)|simp[h1,bne]
structure RRd(w:World)(C Q:Nat)(A B E:Int)(v:World):Prop where
 bel:Below w.heap.size w v
 hC:w.heap.size<=C
 hQ:Q<C
 le:C<=v.heap.size
 g0:v.cell? ⟨Q,0,none⟩=some (.int .i64 A)
 g1:v.cell? ⟨Q,1,none⟩=some (.int .i64 B)
 g2:v.cell? ⟨Q,2,none⟩=some (.int .i64 E)
theorem RRd.next{w:World}{C Q:Nat}{A B E:Int}{v v':World}(h:RRd w C Q A B E v)(k:Below C v v'):RRd w C Q A B E v':=by
 have c1:∀ {a:Addr} {u:Value},a.block<C->v.cell? a=some u->v'.cell? a=some u:=fun ha hu=>(k.cell ha).trans hu;exact⟨h.bel.trans (k.mono h.hC),h.hC,h.hQ,gH h.le k.size,c1 h.hQ h.g0,c1 h.hQ h.g1,c1 h.hQ h.g2⟩
theorem Qr(i:Ad)(w:World):Calls prog 59 #[Ch i] w fun e w'=>∃v,e=.returned v/\w'.ownsRow w.heap.size 3 1 v (Ae i (A4 i.op)).length (Cg (Ae i (A4 i.op)))/\Below w.heap.size w w':=by
 rcases Ov i.op (w.alloc (.cells #[.int .i64 i.op,.int .i64 i.d,.int .i64 i.a,.int .i64 i.b,.int .i64 i.c,.int .i64 i.n,.int .u32 i.bits] 40))with⟨hk,hc⟩|⟨hk,a,b,c,d,e,ht,hc⟩
 .rw[Hy i.op hk,show Ae i ⟨0,0,0,0,0⟩=[] from rfl];obtain⟨op,D,A,B,E,n,bt⟩:=i;unfold Ch;simp only at hc hk |-;have HK:Hid (Calls prog 38 #[.int .i64 op] (w.alloc (.cells #[.int .i64 op,.int .i64 D,.int .i64 A,.int .i64 B,.int .i64 E,.int .i64 n,.int .u32 bt] 40)) fun e w'=>e=.returned (.tuple #[.string ⟨#[]⟩,.bool false])/\w'=w.alloc (.cells #[.int .i64 op,.int .i64 D,.int .i64 A,.int .i64 B,.int .i64 E,.int .i64 n,.int .u32 bt] 40)):=hc;clear hc;go_enter func59,ntmps59;go_wp2_with(go_at_call 38;refine HK.mono ?_;rintro e w1 ⟨rfl,rfl⟩)
  go_loopw [3,7] (fun lv iv wr=>lv=.slice none 0 0/\iv=.int .i64 0/\Below w.heap.size w wr) (fun _ iv _=>0)
  case atStart=>exact⟨rfl,rfl,bel (A0 _ _) (A0 _ _)⟩
  case round=>
   obtain⟨rfl,rfl,hb⟩:=hrel;go_wp2;go_ret;exact⟨_,rfl,World.ownsRow_nil _ _ _ 1,hb⟩
 .rw[F2];have h1:=u8ne b _ ht.b;have h2:=u8ne c _ ht.c;have h3:=u8ne d _ ht.d;obtain⟨i0,hi0,hz0,hz1,hz3⟩:=info_parts Co;obtain⟨r,hr⟩:=gA (A4 i.op)
  rw[hr]at h1 h2 h3 |-;obtain⟨L0,L1,L2,L3,L4⟩:=r;obtain⟨op,D,A,B,E,n,bt⟩:=i;unfold Ch;simp only at hc h1 h2 h3 |-;obtain⟨R,hR⟩:=gA ((ES L1 A++ES L2 B)++ES L3 E)
  rw[hR];have HR:Hid ((ES L1 A++ES L2 B)++ES L3 E=R):=hR;have HK:Hid (∀w,Calls prog 38 #[.int .i64 op] w fun x w'=>x=.returned (.tuple #[.string ⟨#[a,b,c,d,e]⟩,.bool true])/\w'=w):=hc;clear hc ht hr hR hk;go_enter func59,ntmps59;go_wp2_with(go_at_call 38;refine(HK.out _).mono ?_;rintro e w1 ⟨rfl,rfl⟩);have HF1:Hid (RRd w (w.heap.size+1+1) (w.heap.size+1) A B E ((w.alloc (.cells #[.int .i64 op,.int .i64 D,.int .i64 A,.int .i64 B,.int .i64 E,.int .i64 n,.int .u32 bt] 40)).alloc (.cells #[.int .i64 A,.int .i64 B,.int .i64 E] 3))):=
   ⟨bel (A0 _ _) (A0 _ _),oM,oM,sM,sG,sG,sG⟩
  obtain⟨W,hW⟩:=gA ((w.alloc (.cells #[.int .i64 op,.int .i64 D,.int .i64 A,.int .i64 B,.int .i64 E,.int .i64 n,.int .u32 bt] 40)).alloc (.cells #[.int .i64 A,.int .i64 B,.int .i64 E] 3))
  rw[hW]at HF1 |-;obtain⟨Q,hQ⟩:=gA (w.heap.size+1)
  rw[hQ]at HF1;try rw[hQ]
  clear hW
  go_loopw [3,7] (fun lv iv wr=>RRd w (Q+1) Q A B E wr/\∃ (j:Nat) (l:List Int),j<=3/\iv=.int .i64 j/\l.length<=j/\Hid (wr.ownsRow (Q+1) 3 1 lv l.length (Cg l))/\Hid ((j=0->l=[])/\(j=1->l=ES L1 A)/\(j=2->l=ES L1 A++ES L2 B)/\(j=3->l=(ES L1 A++ES L2 B)++ES L3 E))) (fun _ iv _=>3-(intOf iv).toNat)
  case atStart=>exact⟨HF1.out,0,[],oM,rfl,sM,World.ownsRow_nil _ _ _ 1,⟨fun _=>rfl,fun h=>absurd h oM,fun h=>absurd h oM,fun h=>absurd h oM⟩⟩
  case round=>
   clear HF1 HK;obtain⟨hF,j,l,hj,rfl,hll,HO,HL⟩:=hrel;have HF:Hid (RRd w (Q+1) Q A B E wr):=hF;have hGw:=hF.le;have hn1:Q≠wr.heap.size:=oM;obtain rfl|rfl|rfl|rfl:j=0\/j=1\/j=2\/j=3:=oM
   .have g0:=hF.g0;have f0:=kc (A0 wr (.cells #[.int .i64 A] 3)) g0;have hl0:=HL.1 rfl;have ix:∀w,(Instr.index 9 (.string ⟨#[a,b,c,d,e]⟩) (.int .i64 1)).run prog w=.ok (.int .u8 (b.toNat:Int)) w:=fun w=>by simp[Instr.index,run_underlying underlying9,asIntOf,go_sem];rfl
    have hq:=h1;clear hF h1 h2 h3;by_cases hz:L1=0
    .have hz':(!(L1==0))=false:=by simp[hz]
     rw[hz']at hq;have hq2:((b.toNat:Int)==45)=true:=by simpa[bne]using hq
     have HZ:Hid (L1=0):=hz;clear hz;go_wp2;go_roundw
     case rel=>exact⟨HF.out,1,l,oM,by first|rfl|go_num,oM,HO,⟨fun h=>absurd h oM,fun _=>by rw[hl0];unfold ES;simp[HZ.out],fun h=>absurd h oM,fun h=>absurd h oM⟩⟩
     case measure=>simp[intOf]
    .have hz':(!(L1==0))=true:=by simp[hz]
     rw[hz']at hq;have hq2:((b.toNat:Int)==45)=false:=by simpa[bne]using hq
     have HZ:Hid (¬L1=0):=hz;clear hz;go_wp2_with(first
      |(at_builtin;refine wpList_append_own_at _ rfl _ _ 72 rfl (Q+1) 3 i0 _ 1 8 underlying72 hi0 hz0 hz1 hz3 rfl dE _ l.length (Cg l) rfl (World.ownsRow.alloc HO.out _) ⟨wr.heap.size,0,none⟩ 1 1 [.int .i64 A] rfl rfl (World.news_of_block (cs:=#[.int .i64 A]) (t:=3) (fr:=(0,0)) (heap_alloc_new wr _)) Sx mL oM sO ?_;intro v' w3 hown3 hgrow hnil hat;have HO3:Hid (w3.ownsRow (Q+1) 3 1 v' (l.length+1) (Cg l++[.int .i64 A])):=hown3;have HB3:Hid (Below (Q+1) wr w3):=(Below.alloc (Below.refl _ _) hGw _).grown hgrow sO (fun q e=>(HO.lt q e).1);clear hown3 hgrow hnil hat))
     go_roundw
     case rel=>exact⟨HF.next HB3.out,1,l++[A],oM,by first|rfl|go_num,sO,by show _;rw[List.length_append,D2];exact HO3.out,⟨fun h=>absurd h oM,fun _=>by rw[hl0,show ES L1 A=[A]from if_neg HZ.out];try rfl,fun h=>absurd h oM,fun h=>absurd h oM⟩⟩
     case measure=>simp[intOf]
   .have g0:=hF.g1;have f0:=kc (A0 wr (.cells #[.int .i64 B] 3)) g0;have hl0:=HL.2.1 rfl;have ix:∀w,(Instr.index 9 (.string ⟨#[a,b,c,d,e]⟩) (.int .i64 2)).run prog w=.ok (.int .u8 (c.toNat:Int)) w:=fun w=>by simp[Instr.index,run_underlying underlying9,asIntOf,go_sem];rfl
    have hq:=h2;clear hF h1 h2 h3;by_cases hz:L2=0
    .have hz':(!(L2==0))=false:=by simp[hz]
     rw[hz']at hq;have hq2:((c.toNat:Int)==45)=true:=by simpa[bne]using hq
     have HZ:Hid (L2=0):=hz;clear hz;go_wp2;go_roundw
     case rel=>exact⟨HF.out,2,l,oM,by first|rfl|go_num,oM,HO,⟨fun h=>absurd h oM,fun h=>absurd h oM,fun _=>by rw[hl0];unfold ES;simp[HZ.out],fun h=>absurd h oM⟩⟩
     case measure=>simp[intOf]
    .have hz':(!(L2==0))=true:=by simp[hz]
     rw[hz']at hq;have hq2:((c.toNat:Int)==45)=false:=by simpa[bne]using hq
     have HZ:Hid (¬L2=0):=hz;clear hz;go_wp2_with(first
      |(at_builtin;refine wpList_append_own_at _ rfl _ _ 72 rfl (Q+1) 3 i0 _ 1 8 underlying72 hi0 hz0 hz1 hz3 rfl dE _ l.length (Cg l) rfl (World.ownsRow.alloc HO.out _) ⟨wr.heap.size,0,none⟩ 1 1 [.int .i64 B] rfl rfl (World.news_of_block (cs:=#[.int .i64 B]) (t:=3) (fr:=(0,0)) (heap_alloc_new wr _)) Sx mL oM sO ?_;intro v' w3 hown3 hgrow hnil hat;have HO3:Hid (w3.ownsRow (Q+1) 3 1 v' (l.length+1) (Cg l++[.int .i64 B])):=hown3;have HB3:Hid (Below (Q+1) wr w3):=(Below.alloc (Below.refl _ _) hGw _).grown hgrow sO (fun q e=>(HO.lt q e).1);clear hown3 hgrow hnil hat))
     go_roundw
     case rel=>exact⟨HF.next HB3.out,2,l++[B],oM,by first|rfl|go_num,sO,by show _;rw[List.length_append,D2];exact HO3.out,⟨fun h=>absurd h oM,fun h=>absurd h oM,fun _=>by rw[hl0,show ES L2 B=[B]from if_neg HZ.out];try rfl,fun h=>absurd h oM⟩⟩
     case measure=>simp[intOf]
   .have g0:=hF.g2;have f0:=kc (A0 wr (.cells #[.int .i64 E] 3)) g0;have hl0:=HL.2.2.1 rfl;have ix:∀w,(Instr.index 9 (.string ⟨#[a,b,c,d,e]⟩) (.int .i64 3)).run prog w=.ok (.int .u8 (d.toNat:Int)) w:=fun w=>by simp[Instr.index,run_underlying underlying9,asIntOf,go_sem];rfl
    have hq:=h3;clear hF h1 h2 h3;by_cases hz:L3=0
    .have hz':(!(L3==0))=false:=by simp[hz]
     rw[hz']at hq;have hq2:((d.toNat:Int)==45)=true:=by simpa[bne]using hq
     have HZ:Hid (L3=0):=hz;clear hz;go_wp2;go_roundw
     case rel=>exact⟨HF.out,3,l,oM,by first|rfl|go_num,oM,HO,⟨fun h=>absurd h oM,fun h=>absurd h oM,fun h=>absurd h oM,fun _=>by rw[hl0];unfold ES;simp[HZ.out]⟩⟩
     case measure=>simp[intOf]
    .have hz':(!(L3==0))=true:=by simp[hz]
     rw[hz']at hq;have hq2:((d.toNat:Int)==45)=false:=by simpa[bne]using hq
     have HZ:Hid (¬L3=0):=hz;clear hz;go_wp2_with(first
      |(at_builtin;refine wpList_append_own_at _ rfl _ _ 72 rfl (Q+1) 3 i0 _ 1 8 underlying72 hi0 hz0 hz1 hz3 rfl dE _ l.length (Cg l) rfl (World.ownsRow.alloc HO.out _) ⟨wr.heap.size,0,none⟩ 1 1 [.int .i64 E] rfl rfl (World.news_of_block (cs:=#[.int .i64 E]) (t:=3) (fr:=(0,0)) (heap_alloc_new wr _)) Sx mL oM sO ?_;intro v' w3 hown3 hgrow hnil hat;have HO3:Hid (w3.ownsRow (Q+1) 3 1 v' (l.length+1) (Cg l++[.int .i64 E])):=hown3;have HB3:Hid (Below (Q+1) wr w3):=(Below.alloc (Below.refl _ _) hGw _).grown hgrow sO (fun q e=>(HO.lt q e).1);clear hown3 hgrow hnil hat))
     go_roundw
     case rel=>exact⟨HF.next HB3.out,3,l++[E],oM,by first|rfl|go_num,sO,by show _;rw[List.length_append,D2];exact HO3.out,⟨fun h=>absurd h oM,fun h=>absurd h oM,fun h=>absurd h oM,fun _=>by rw[hl0,show ES L3 E=[E]from if_neg HZ.out];try rfl⟩⟩
     case measure=>simp[intOf]
   .exact Zfe
theorem Hw(t:Ty)(p:Option Addr)(n c:Nat)(hn:n<=140737488351232)(w:World):Calls prog 34 #[DY t,.slice p n c] w fun e w'=>e=.returned (.bool (AF t n))/\Below w.heap.size w w':=by
 obtain⟨K,P⟩:=t;unfold AF DY Av;simp only;by_cases h1:K=1
 .subst h1;rw[if_pos (Or.inl rfl)];exact Zfd
 .by_cases h2:K=2
  .subst h2;rw[if_pos (Or.inr rfl)];exact Zfd
  .rw[if_neg (fun e=>e.elim h1 h2)];have h1':(K==1)=false:=by simpa using h1
   have h2':(K==2)=false:=by simpa using h2
   by_cases h3:K=3
   .subst h3;rw[if_pos rfl];by_cases h:0<=P
    all_goals
     go_enter func34,ntmps34;go_wp2;go_ret;exact⟨Ab (by simp[h];try omega),A0 _ _⟩
   .rw[if_neg h3];have h3':(K==3)=false:=by simpa using h3
    clear h1 h2 h3;exact Zfd
theorem OB(v0 v1 v2 v3:Value)(c:Cd)(hk:Ba c)(n:Int)(w:World)(hv:CE w v0 v1 v2 v3 c):
 Calls prog 107 #[.agg #[v0,v1,v2,v3],.int .i64 n] w fun e w'=>e=.returned (.tuple #[DY (Aa c.regs n),.bool (Av n c.regs.length)])/\Below w.heap.size w w':=by
 have HB:=hk.regsL;have hr:=hv.regs;obtain⟨p,q,rfl,hrr⟩:=hv.regs;clear hv hk;by_cases h0:0<=n
 .by_cases h1:n<(c.regs.length:Int)
  .obtain⟨k,rfl⟩:∃k:Nat,n=(k:Int):=⟨n.toNat,oM⟩
   have hk:k<c.regs.length:=oM;have e:Aa c.regs (k:Int)=c.regs[k]:=Ft rfl hk;have e2:Av (k:Int) c.regs.length=true:=BU.2 ⟨oM,oM⟩;rw[e,e2];obtain⟨lb,lo,rfl,hc⟩:=hr.at hk;obtain⟨⟨K,P⟩,ht⟩:∃t:Ty,c.regs[k]=t:=⟨_,rfl⟩
   rw[ht]at hc |-;have y0:w.cell? ⟨lb,lo+k*2,none⟩=some (.int .i64 K):=hc.at 0 rfl;have y1:w.cell? ⟨lb,lo+k*2+1,none⟩=some (.int .i64 P):=hc.at 1 rfl;have hlb:lb≠w.heap.size:=by have:=A8 y0;simp only at this;omega
   obtain⟨N,hN⟩:=gA (c.regs.length)
   rw[hN]at hk HB |-;clear hr hrr hc ht e e2 h0 h1 hN;have g0:∀o o',((w.alloc o).alloc o').cell? ⟨lb,lo+k*2,none⟩=some (.int .i64 K):=fun o o'=>kc (bel (A0 _ _) (A0 _ _)) y0;have g1:∀o o',((w.alloc o).alloc o').cell? ⟨lb,lo+k*2+1,none⟩=some (.int .i64 P):=fun o o'=>kc (bel (A0 _ _) (A0 _ _)) y1;unfold DY;go_enter func107,ntmps107;go_wp2;refine bodyPost_ret Zgz rfl ?_;exact UP
  .have e2:Av n c.regs.length=false:=by unfold Av;simp;omega
   have e:Aa c.regs n=⟨0,0⟩:=by unfold Aa;rw[e2];rfl
   rw[e,e2];obtain⟨N,hN⟩:=gA (c.regs.length)
   rw[hN]at h1 HB |-;clear hr hrr e e2 hN;unfold DY;go_enter func107,ntmps107;go_wp2;refine bodyPost_ret Zgz rfl ?_;exact UP
 .have e2:Av n c.regs.length=false:=by unfold Av;simp;omega
  have e:Aa c.regs n=⟨0,0⟩:=by unfold Aa;rw[e2];rfl
  rw[e,e2];obtain⟨N,hN⟩:=gA (c.regs.length)
  rw[hN]at HB |-;clear hr hrr e e2 hN;unfold DY;go_enter func107,ntmps107;go_wp2;refine bodyPost_ret Zgz rfl ?_;exact UP
def GD(b:Int)(t d:Ty):Bool:=
 if b=110 then t.kind==1 else if b=119 then t.kind==2 else if b=118 then t.kind==3 else if b=100 then t.kind==1||t.kind==3
 else if b=120 then t.kind==1||decide (t=d)else if b=99 then decide (t=d)||(t.kind==1&&d.kind==3)else true
def At(rs:List Ty)(b n:Int)(d:Ty):Bool:=if b=45 then n==0 else Av n rs.length&&GD b (Aa rs n) d
theorem Fw(v0 v1 v2 v3:Value)(c:Cd)(hk:Ba c)(b n:Int)(d:Ty)(hb:b=45\/b=110\/b=119\/b=118\/b=100\/b=120\/b=99\/b=97)(w:World)(hv:CE w v0 v1 v2 v3 c):
 Calls prog 86 #[.agg #[v0,v1,v2,v3],.int .u8 b,.int .i64 n,DY d] w fun e w'=>e=.returned (.bool (At c.regs b n d))/\Below w.heap.size w w':=by
 have KT:Hid (∀v,Below w.heap.size w v->Calls prog 107 #[.agg #[v0,v1,v2,v3],.int .i64 n] v fun e w'=>e=.returned (.tuple #[DY (Aa c.regs n),.bool (Av n c.regs.length)])/\Below v.heap.size v w'):=fun v h=>OB v0 v1 v2 v3 c hk n v (hv.below h);unfold At;obtain⟨X,hX⟩:=gA (Av n c.regs.length)
 obtain⟨⟨K,P⟩,ht⟩:∃t:Ty,Aa c.regs n=t:=⟨_,rfl⟩
 rw[hX,ht]at KT |-;clear hX ht hv hk;obtain⟨dk,dp⟩:=d;unfold DY at KT |-;simp only at KT |-;by_cases h45:b=45
 .subst h45;rw[if_pos rfl];go_enter func86,ntmps86;go_wp2;go_ret;exact UP
 .rw[if_neg h45];have h45':(b==45)=false:=by simpa using h45
  cases X
  .rw[Bool.false_and];clear hb h45;go_enter func86,ntmps86;go_wp2_with(go_at_call 107;(with_reducible refine(KT.out _ (bel (A0 _ _) (A0 _ _))).mono ?_);rintro e w1 ⟨rfl,hb1⟩;have f0:∀o,(w1.alloc o).cell? ⟨w.heap.size+1,0,none⟩=some (.int .i64 dk):=(fun o=>kc (bel hb1 (A0 _ _)) sG);have f1:∀o,(w1.alloc o).cell? ⟨w.heap.size+1,1,none⟩=some (.int .i64 dp):=(fun o=>kc (bel hb1 (A0 _ _)) sG);have HB1:Hid _:=hb1;clear hb1);go_ret;exact⟨rfl,bel (bel (A0 _ _) (A0 _ _)) (bel HB1.out (A0 _ _))⟩
  .rw[Bool.true_and];rcases hb with rfl|rfl|rfl|rfl|rfl|rfl|rfl|rfl
   .exact absurd rfl h45
   all_goals clear h45 h45'
   all_goals
    cases h1:(K==1)
    all_goals
     by_cases hkd:K=dk
     .subst hkd;by_cases hpd:P=dp
      .subst hpd;go_enter func86,ntmps86;go_wp2_with(go_at_call 107;(with_reducible refine(KT.out _ (bel (A0 _ _) (A0 _ _))).mono ?_);rintro e w1 ⟨rfl,hb1⟩;have f0:∀o,(w1.alloc o).cell? ⟨w.heap.size+1,0,none⟩=some (.int .i64 K):=(fun o=>kc (bel hb1 (A0 _ _)) sG);have f1:∀o,(w1.alloc o).cell? ⟨w.heap.size+1,1,none⟩=some (.int .i64 P):=(fun o=>kc (bel hb1 (A0 _ _)) sG);have HB1:Hid _:=hb1;clear hb1);exact Zdv
      .go_enter func86,ntmps86;go_wp2_with(go_at_call 107;(with_reducible refine(KT.out _ (bel (A0 _ _) (A0 _ _))).mono ?_);rintro e w1 ⟨rfl,hb1⟩;have f0:∀o,(w1.alloc o).cell? ⟨w.heap.size+1,0,none⟩=some (.int .i64 K):=(fun o=>kc (bel hb1 (A0 _ _)) sG);have f1:∀o,(w1.alloc o).cell? ⟨w.heap.size+1,1,none⟩=some (.int .i64 dp):=(fun o=>kc (bel hb1 (A0 _ _)) sG);have HB1:Hid _:=hb1;clear hb1);exact Zdv
     .go_enter func86,ntmps86;go_wp2_with(go_at_call 107;(with_reducible refine(KT.out _ (bel (A0 _ _) (A0 _ _))).mono ?_);rintro e w1 ⟨rfl,hb1⟩;have f0:∀o,(w1.alloc o).cell? ⟨w.heap.size+1,0,none⟩=some (.int .i64 dk):=(fun o=>kc (bel hb1 (A0 _ _)) sG);have f1:∀o,(w1.alloc o).cell? ⟨w.heap.size+1,1,none⟩=some (.int .i64 dp):=(fun o=>kc (bel hb1 (A0 _ _)) sG);have HB1:Hid _:=hb1;clear hb1);exact Zdv
theorem M9(v0 v1 v2 v3:Value)(c:Cd)(hk:Ba c)(n p:Int)(hp:n=1->Av p c.sign.length=true)(w:World)(hv:CE w v0 v1 v2 v3 c):
 Calls prog 87 #[.agg #[v0,v1,v2,v3],.int .i64 n,.int .i64 p] w fun e w'=>e=.returned (.bool (n==0||(n==1&&CV c.sign p==2)))/\Below w.heap.size w w':=by
 have HB:=hk.signL;by_cases h0:n=0
 .subst h0;clear hp hv;go_enter func87,ntmps87;go_wp2;go_ret;exact⟨rfl,A0 _ _⟩
 .have h0':(n==0)=false:=by simpa using h0
  by_cases h1:n=1
  .subst h1;obtain⟨k,rfl,hkl⟩:=Dr (hp rfl);have hr:=hv.sign;obtain⟨p,q,rfl,hrr⟩:=hv.sign;obtain⟨lb,lo,rfl,hc⟩:=hr.at hkl;have e:CV c.sign (k:Int)=c.sign[k].kind:=by unfold CV;rw[Int.toNat_natCast,gB hkl];rfl
   rw[e];obtain⟨⟨nm,K,L⟩,ht⟩:∃t:BM,c.sign[k]=t:=⟨_,rfl⟩
   rw[ht]at hc |-;have y1:w.cell? ⟨lb,lo+k*3+1,none⟩=some (.int .i64 K):=hc.at 1 rfl;have g1:∀o,(w.alloc o).cell? ⟨lb,lo+k*3+1,none⟩=some (.int .i64 K):=fun o=>kc (A0 _ _) y1;obtain⟨N,hN⟩:=gA (c.sign.length)
   rw[hN]at hkl HB |-;clear hr hrr hc ht e hp hv hN h0 hk;simp only;go_enter func87,ntmps87;go_wp2;go_ret;exact⟨Ab sM,A0 _ _⟩
  .have h1':(n==1)=false:=by simpa using h1
   rw[h0',h1'];clear hp hv h0 h1;go_enter func87,ntmps87;go_wp2;go_ret;exact⟨rfl,A0 _ _⟩
def FL(i:Ad):Int:=if Bq i.op||(i.op==29||(i.op==30||i.op==32))then i.d else if i.op==31||i.op==33 then i.a else -1
def GF(rs:List Ty)(n:Int):Int:=if Av n rs.length&&(Aa rs n).kind==3 then(Aa rs n).par else -1
theorem OD(v0 v1 v2 v3:Value)(c:Cd)(hk:Ba c)(i:Ad)(w:World)(hv:CE w v0 v1 v2 v3 c):
 Calls prog 58 #[.agg #[v0,v1,v2,v3],Ch i] w fun e w'=>e=.returned (.int .i64 (GF c.regs (FL i)))/\Below w.heap.size w w':=by
 have HB:=hk.regsL;have KE:Hid (∀v,Calls prog 88 #[.int .i64 i.op] v fun e w'=>e=.returned (.bool (Bq i.op))/\w'=v):=TM i.op;have hr:=hv.regs;obtain⟨p,q,rfl,hrr⟩:=hv.regs;clear hv hk hrr;obtain⟨op,D,A,B,E,nn,bb⟩:=i;unfold Ch;simp only at KE |-;have Bl:∀n:Int,(Av n c.regs.length=false/\GF c.regs n= -1)\/∃ (k:Nat) (lb lo:Nat) (K P:Int),n=(k:Int)/\k<c.regs.length/\p=some ⟨lb,lo,none⟩/\w.cell? ⟨lb,lo+k*2,none⟩=some (.int .i64 K)/\w.cell? ⟨lb,lo+k*2+1,none⟩=some (.int .i64 P)/\GF c.regs n=if K==3 then P else -1:=by
  intro n;cases h:Av n c.regs.length
  .exact .inl ⟨rfl,by unfold GF;rw[h];rfl⟩
  .obtain⟨k,rfl,hkl⟩:=Dr h;obtain⟨lb,lo,hp,hc⟩:=hr.at hkl;refine .inr ⟨k,lb,lo,c.regs[k].kind,c.regs[k].par,rfl,hkl,hp,hc.at 0 rfl,hc.at 1 rfl,?_⟩;unfold GF;rw[h,Ft rfl hkl,Bool.true_and]
 obtain⟨N,hN⟩:=gA (c.regs.length)
 rw[hN]at HB Bl |-;clear hr;cases hX:Bq op
 .rw[hX]at KE;by_cases a29:op=29
  .subst a29;rw[show FL ⟨29,D,A,B,E,nn,bb⟩=D from rfl];rcases Bl D with⟨hpl,e9⟩|⟨k,lb,lo,K,P,rfl,hkl,rfl,y0,y1,e9⟩
   .rw[e9];clear Bl e9;by_cases h0:D<0
    .exact J9
    .have h1:(N:Int)<=D:=by unfold Av at hpl;simp at hpl;omega
     exact J9
   .rw[e9];clear Bl e9;have g0:∀o o',((w.alloc o).alloc o').cell? ⟨lb,lo+k*2,none⟩=some (.int .i64 K):=fun o o'=>kc (bel (A0 _ _) (A0 _ _)) y0;have g1:∀o o',((w.alloc o).alloc o').cell? ⟨lb,lo+k*2+1,none⟩=some (.int .i64 P):=fun o o'=>kc (bel (A0 _ _) (A0 _ _)) y1;by_cases h3:K=3
    .subst h3;exact J9
    .have h3':(K==3)=false:=by simpa using h3
     have h3b:(K != 3)=true:=by simpa using h3
     rw[h3'];clear h3;exact J9
  by_cases a30:op=30
  .subst a30;rw[show FL ⟨30,D,A,B,E,nn,bb⟩=D from rfl];rcases Bl D with⟨hpl,e9⟩|⟨k,lb,lo,K,P,rfl,hkl,rfl,y0,y1,e9⟩
   .rw[e9];clear Bl e9;by_cases h0:D<0
    .exact J9
    .have h1:(N:Int)<=D:=by unfold Av at hpl;simp at hpl;omega
     exact J9
   .rw[e9];clear Bl e9;have g0:∀o o',((w.alloc o).alloc o').cell? ⟨lb,lo+k*2,none⟩=some (.int .i64 K):=fun o o'=>kc (bel (A0 _ _) (A0 _ _)) y0;have g1:∀o o',((w.alloc o).alloc o').cell? ⟨lb,lo+k*2+1,none⟩=some (.int .i64 P):=fun o o'=>kc (bel (A0 _ _) (A0 _ _)) y1;by_cases h3:K=3
    .subst h3;exact J9
    .have h3':(K==3)=false:=by simpa using h3
     have h3b:(K != 3)=true:=by simpa using h3
     rw[h3'];clear h3;exact J9
  by_cases a32:op=32
  .subst a32;rw[show FL ⟨32,D,A,B,E,nn,bb⟩=D from rfl];rcases Bl D with⟨hpl,e9⟩|⟨k,lb,lo,K,P,rfl,hkl,rfl,y0,y1,e9⟩
   .rw[e9];clear Bl e9;by_cases h0:D<0
    .exact J9
    .have h1:(N:Int)<=D:=by unfold Av at hpl;simp at hpl;omega
     exact J9
   .rw[e9];clear Bl e9;have g0:∀o o',((w.alloc o).alloc o').cell? ⟨lb,lo+k*2,none⟩=some (.int .i64 K):=fun o o'=>kc (bel (A0 _ _) (A0 _ _)) y0;have g1:∀o o',((w.alloc o).alloc o').cell? ⟨lb,lo+k*2+1,none⟩=some (.int .i64 P):=fun o o'=>kc (bel (A0 _ _) (A0 _ _)) y1;by_cases h3:K=3
    .subst h3;exact J9
    .have h3':(K==3)=false:=by simpa using h3
     have h3b:(K != 3)=true:=by simpa using h3
     rw[h3'];clear h3;exact J9
  by_cases a31:op=31
  .subst a31;rw[show FL ⟨31,D,A,B,E,nn,bb⟩=A from rfl];rcases Bl A with⟨hpl,e9⟩|⟨k,lb,lo,K,P,rfl,hkl,rfl,y0,y1,e9⟩
   .rw[e9];clear Bl e9;by_cases h0:A<0
    .exact J9
    .have h1:(N:Int)<=A:=by unfold Av at hpl;simp at hpl;omega
     exact J9
   .rw[e9];clear Bl e9;have g0:∀o o',((w.alloc o).alloc o').cell? ⟨lb,lo+k*2,none⟩=some (.int .i64 K):=fun o o'=>kc (bel (A0 _ _) (A0 _ _)) y0;have g1:∀o o',((w.alloc o).alloc o').cell? ⟨lb,lo+k*2+1,none⟩=some (.int .i64 P):=fun o o'=>kc (bel (A0 _ _) (A0 _ _)) y1;by_cases h3:K=3
    .subst h3;exact J9
    .have h3':(K==3)=false:=by simpa using h3
     have h3b:(K != 3)=true:=by simpa using h3
     rw[h3'];clear h3;exact J9
  by_cases a33:op=33
  .subst a33;rw[show FL ⟨33,D,A,B,E,nn,bb⟩=A from rfl];rcases Bl A with⟨hpl,e9⟩|⟨k,lb,lo,K,P,rfl,hkl,rfl,y0,y1,e9⟩
   .rw[e9];clear Bl e9;by_cases h0:A<0
    .exact J9
    .have h1:(N:Int)<=A:=by unfold Av at hpl;simp at hpl;omega
     exact J9
   .rw[e9];clear Bl e9;have g0:∀o o',((w.alloc o).alloc o').cell? ⟨lb,lo+k*2,none⟩=some (.int .i64 K):=fun o o'=>kc (bel (A0 _ _) (A0 _ _)) y0;have g1:∀o o',((w.alloc o).alloc o').cell? ⟨lb,lo+k*2+1,none⟩=some (.int .i64 P):=fun o o'=>kc (bel (A0 _ _) (A0 _ _)) y1;by_cases h3:K=3
    .subst h3;exact J9
    .have h3':(K==3)=false:=by simpa using h3
     have h3b:(K != 3)=true:=by simpa using h3
     rw[h3'];clear h3;exact J9
  .have b29:(op==29)=false:=by simpa using a29
   have b30:(op==30)=false:=by simpa using a30
   have b31:(op==31)=false:=by simpa using a31
   have b32:(op==32)=false:=by simpa using a32
   have b33:(op==33)=false:=by simpa using a33
   rw[show FL ⟨op,D,A,B,E,nn,bb⟩= -1 by unfold FL;simp[hX,b29,b30,b31,b32,b33]];rw[show GF c.regs (-1)= -1 by unfold GF Av;simp];clear Bl a29 a30 a31 a32 a33;exact J9
 .rw[hX]at KE;rw[show FL ⟨op,D,A,B,E,nn,bb⟩=D by unfold FL;simp[hX]];rcases Bl D with⟨hpl,e9⟩|⟨k,lb,lo,K,P,rfl,hkl,rfl,y0,y1,e9⟩
  .rw[e9];clear Bl e9;by_cases h0:D<0
   .exact J9
   .have h1:(N:Int)<=D:=by unfold Av at hpl;simp at hpl;omega
    exact J9
  .rw[e9];clear Bl e9;have g0:∀o o',((w.alloc o).alloc o').cell? ⟨lb,lo+k*2,none⟩=some (.int .i64 K):=fun o o'=>kc (bel (A0 _ _) (A0 _ _)) y0;have g1:∀o o',((w.alloc o).alloc o').cell? ⟨lb,lo+k*2+1,none⟩=some (.int .i64 P):=fun o o'=>kc (bel (A0 _ _) (A0 _ _)) y1;by_cases h3:K=3
   .subst h3;exact J9
   .have h3':(K==3)=false:=by simpa using h3
    have h3b:(K != 3)=true:=by simpa using h3
    rw[h3'];clear h3;exact J9
instance:DecidableEq BM:=fun a b=>by
 cases a;cases b
 simp only[BM.mk.injEq];exact inferInstanceAs (Decidable (_/\_/\_))
theorem DO{P:Program}{w:World}{ops:Array Oper}{o:Oper}{a:Act}{K:Act->World->Prop}{Q:Exit->Act->World->Prop}{E:Prop}(hgd:o.guard=none)(t:TypeId)(x y:Operand)(yt:TypeId)
 (ho:o.op=.binOp .neq t x y yt) (v1 v2 v:Value) (hx:a.eval x=v1) (hy:a.eval y=v2) (hg:(eqGuard .neq t x y v1 v2).run P w=.ok () w) (hr:(binOp .neq t v1 v2).run P w=.ok v w) (h:K (a.put o.dst v) w):
 if Region.wanted o (yielded ops a.tmps)=true then Oper.wp P o a w K Q else E:=by
 have hw:Region.wanted o (yielded ops a.tmps)=true:=by simp[Region.wanted,hgd]
 rw[if_pos hw];unfold Oper.wp execOp;simp only[ho,Sem.run_bind,Sem.run_pure,Result.andThen_ok,hx,hy,hg,hr];exact h
theorem Zr(a b:BM)(w:World):(binOp .neq 67 (pv a) (pv b)).run prog w=.ok (.bool (!decide (a=b))) w:=by
 obtain⟨x0,x1,x2⟩:=a;obtain⟨y0,y1,y2⟩:=b;unfold pv;by_cases h0:x0=y0
 .subst h0;by_cases h1:x1=y1
  .subst h1;by_cases h2:x2=y2
   .subst h2;go_simp
   .go_simp
  .go_simp
 .go_simp;exact fun e=>absurd (Go.WideShapes.bytes_inj (by rwa[ByteArray.toList_eq,ByteArray.toList_eq]at e)) h0
theorem R9(p q:Operand)(a b:BM)(w:World):(eqGuard .neq 67 p q (pv a) (pv b)).run prog w=.ok () w:=by
 obtain⟨x0,x1,x2⟩:=a;obtain⟨y0,y1,y2⟩:=b;unfold pv;simp[eqGuard,go_sem]
theorem neq_Ty(a b:Ty)(w:World):(binOp .neq 59 (DY a) (DY b)).run prog w=.ok (.bool (!decide (a=b))) w:=by
 obtain⟨x0,x1⟩:=a;obtain⟨y0,y1⟩:=b;unfold DY;by_cases h0:x0=y0
 .subst h0;by_cases h1:x1=y1
  .subst h1;go_simp
  .go_simp
 .go_simp
theorem Vr(p q:Operand)(a b:Ty)(w:World):(eqGuard .neq 59 p q (DY a) (DY b)).run prog w=.ok () w:=by
 obtain⟨x0,x1⟩:=a;obtain⟨y0,y1⟩:=b;unfold DY;simp[eqGuard,go_sem]
theorem neq_Sl(a b:Sl)(w:World):(binOp .neq 64 (Sk a) (Sk b)).run prog w=.ok (.bool (!decide (a=b))) w:=by
 obtain⟨⟨x0,x1⟩,x2,x3,x4⟩:=a;obtain⟨⟨y0,y1⟩,y2,y3,y4⟩:=b;unfold Sk;by_cases h0:x0=y0
 .subst h0;by_cases h1:x1=y1
  .subst h1;by_cases h2:x2=y2
   .subst h2;by_cases h3:x3=y3
    .subst h3;by_cases h4:x4=y4
     .subst h4;go_simp
     .go_simp
    .go_simp
   .go_simp
  .go_simp
 .go_simp
theorem Vq(p q:Operand)(a b:Sl)(w:World):(eqGuard .neq 64 p q (Sk a) (Sk b)).run prog w=.ok () w:=by
 obtain⟨⟨x0,x1⟩,x2,x3,x4⟩:=a;obtain⟨⟨y0,y1⟩,y2,y3,y4⟩:=b;unfold Sk;simp[eqGuard,go_sem]
theorem Zq(a b:Ad)(w:World):(binOp .neq 40 (Ch a) (Ch b)).run prog w=.ok (.bool (!decide (a=b))) w:=by
 obtain⟨x0,x1,x2,x3,x4,x5,x6⟩:=a;obtain⟨y0,y1,y2,y3,y4,y5,y6⟩:=b;unfold Ch;by_cases h0:x0=y0
 .subst h0;by_cases h1:x1=y1
  .subst h1;by_cases h2:x2=y2
   .subst h2;by_cases h3:x3=y3
    .subst h3;by_cases h4:x4=y4
     .subst h4;by_cases h5:x5=y5
      .subst h5;by_cases h6:x6=y6
       .subst h6;go_simp
       .go_simp
      .go_simp
     .go_simp
    .go_simp
   .go_simp
  .go_simp
 .go_simp
theorem R8(p q:Operand)(a b:Ad)(w:World):(eqGuard .neq 40 p q (Ch a) (Ch b)).run prog w=.ok () w:=by
 obtain⟨x0,x1,x2,x3,x4,x5,x6⟩:=a;obtain⟨y0,y1,y2,y3,y4,y5,y6⟩:=b;unfold Ch;simp[eqGuard,go_sem]
def eqC(a b:Cd):Bool:=decide (a.sign=b.sign)&&(decide (a.regs=b.regs)&&(decide (a.slots=b.slots)&&decide (a.list=b.list)))
theorem Vb(a:Cd):eqC a a=true:=by simp[eqC]
theorem Ut{w v:World}{a0 a1 a2 a3 b0 b1 b2 b3:Value}{t:TypeId}(k:Below ((w.alloc (.cells #[a0,a1,a2,a3] t)).alloc (.cells #[b0,b1,b2,b3] t)).heap.size ((w.alloc (.cells #[a0,a1,a2,a3] t)).alloc (.cells #[b0,b1,b2,b3] t)) v):
 (v.cell? ⟨w.heap.size,0,none⟩=some a0/\v.cell? ⟨w.heap.size,1,none⟩=some a1/\v.cell? ⟨w.heap.size,2,none⟩=some a2/\v.cell? ⟨w.heap.size,3,none⟩=some a3)/\v.cell? ⟨w.heap.size+1,0,none⟩=some b0/\v.cell? ⟨w.heap.size+1,1,none⟩=some b1/\v.cell? ⟨w.heap.size+1,2,none⟩=some b2/\v.cell? ⟨w.heap.size+1,3,none⟩=some b3:=
 ⟨⟨kc k sG,kc k sG,kc k sG,kc k sG⟩,kc k sG,kc k sG,kc k sG,kc k sG⟩
theorem Qj(a0 a1 a2 a3 b0 b1 b2 b3:Value)(a b:Cd)(ha:Ba a)(hb:Ba b)(w:World)(hA:CE w a0 a1 a2 a3 a)(hB:CE w b0 b1 b2 b3 b):
 Calls prog 21 #[.agg #[a0,a1,a2,a3],.agg #[b0,b1,b2,b3]] w fun e w'=>e=.returned (.bool (eqC a b))/\Below w.heap.size w w':=by
 have hl0:=ha.signL;have hm0:=hb.signL;have HV0:Hid (AV 3 AY w a0 a.sign):=hA.sign;have HU0:Hid (AV 3 AY w b0 b.sign):=hB.sign;have hl1:=ha.regsL;have hm1:=hb.regsL;have HV1:Hid (AV 2 J6 w a1 a.regs):=hA.regs;have HU1:Hid (AV 2 J6 w b1 b.regs):=hB.regs;have hl2:=ha.slotsL;have hm2:=hb.slotsL;have HV2:Hid (AV 5 Jf w a2 a.slots):=hA.slots;have HU2:Hid (AV 5 Jf w b2 b.slots):=hB.slots;have hl3:=ha.listL;have hm3:=hb.listL;have HV3:Hid (AV 7 C9 w a3 a.list):=hA.list;have HU3:Hid (AV 7 C9 w b3 b.list):=hB.list;obtain⟨p0,c0,rfl,-⟩:=hA.sign;obtain⟨q0,d0,rfl,-⟩:=hB.sign;obtain⟨p1,c1,rfl,-⟩:=hA.regs;obtain⟨q1,d1,rfl,-⟩:=hB.regs;obtain⟨p2,c2,rfl,-⟩:=hA.slots;obtain⟨q2,d2,rfl,-⟩:=hB.slots;obtain⟨p3,c3,rfl,-⟩:=hA.list;obtain⟨q3,d3,rfl,-⟩:=hB.list;clear hA hB ha hb;unfold eqC;obtain⟨l0,hL0⟩:∃l,a.sign=l:=⟨_,rfl⟩
 obtain⟨m0,hM0⟩:∃l,b.sign=l:=⟨_,rfl⟩
 rw[hL0]at hl0 HV0 |-;rw[hM0]at hm0 HU0 |-;obtain⟨l1,hL1⟩:∃l,a.regs=l:=⟨_,rfl⟩
 obtain⟨m1,hM1⟩:∃l,b.regs=l:=⟨_,rfl⟩
 rw[hL1]at hl1 HV1 |-;rw[hM1]at hm1 HU1 |-;obtain⟨l2,hL2⟩:∃l,a.slots=l:=⟨_,rfl⟩
 obtain⟨m2,hM2⟩:∃l,b.slots=l:=⟨_,rfl⟩
 rw[hL2]at hl2 HV2 |-;rw[hM2]at hm2 HU2 |-;obtain⟨l3,hL3⟩:∃l,a.list=l:=⟨_,rfl⟩
 obtain⟨m3,hM3⟩:∃l,b.list=l:=⟨_,rfl⟩
 rw[hL3]at hl3 HV3 |-;rw[hM3]at hm3 HU3 |-;clear hL0 hL1 hL2 hL3 hM0 hM1 hM2 hM3;have HLE0:Hid (l0.length=m0.length->(l0=m0↔∀j (h1:j<l0.length) (h2:j<m0.length),l0[j]=m0[j])):=fun hne=>⟨fun e=>by subst e;exact fun j h1 h2=>rfl,fun h=>List.ext_getElem hne h⟩
 obtain⟨N0,hN0⟩:∃N,l0.length=N:=⟨_,rfl⟩
 obtain⟨M0,hM0⟩:∃N,m0.length=N:=⟨_,rfl⟩
 rw[hN0]at hl0 HV0 |-;rw[hM0]at hm0 HU0 |-;have HN0:Hid (l0.length=N0):=hN0;have HM0:Hid (m0.length=M0):=hM0;have HLE1:Hid (l1.length=m1.length->(l1=m1↔∀j (h1:j<l1.length) (h2:j<m1.length),l1[j]=m1[j])):=fun hne=>⟨fun e=>by subst e;exact fun j h1 h2=>rfl,fun h=>List.ext_getElem hne h⟩
 obtain⟨N1,hN1⟩:∃N,l1.length=N:=⟨_,rfl⟩
 obtain⟨M1,hM1⟩:∃N,m1.length=N:=⟨_,rfl⟩
 rw[hN1]at hl1 HV1 |-;rw[hM1]at hm1 HU1 |-;have HN1:Hid (l1.length=N1):=hN1;have HM1:Hid (m1.length=M1):=hM1;have HLE2:Hid (l2.length=m2.length->(l2=m2↔∀j (h1:j<l2.length) (h2:j<m2.length),l2[j]=m2[j])):=fun hne=>⟨fun e=>by subst e;exact fun j h1 h2=>rfl,fun h=>List.ext_getElem hne h⟩
 obtain⟨N2,hN2⟩:∃N,l2.length=N:=⟨_,rfl⟩
 obtain⟨M2,hM2⟩:∃N,m2.length=N:=⟨_,rfl⟩
 rw[hN2]at hl2 HV2 |-;rw[hM2]at hm2 HU2 |-;have HN2:Hid (l2.length=N2):=hN2;have HM2:Hid (m2.length=M2):=hM2;have HLE3:Hid (l3.length=m3.length->(l3=m3↔∀j (h1:j<l3.length) (h2:j<m3.length),l3[j]=m3[j])):=fun hne=>⟨fun e=>by subst e;exact fun j h1 h2=>rfl,fun h=>List.ext_getElem hne h⟩
 obtain⟨N3,hN3⟩:∃N,l3.length=N:=⟨_,rfl⟩
 obtain⟨M3,hM3⟩:∃N,m3.length=N:=⟨_,rfl⟩
 rw[hN3]at hl3 HV3 |-;rw[hM3]at hm3 HU3 |-;have HN3:Hid (l3.length=N3):=hN3;have HM3:Hid (m3.length=M3):=hM3;obtain⟨R,hR⟩:=gA ((decide (l0=m0)&&(decide (l1=m1)&&(decide (l2=m2)&&decide (l3=m3)))))
 rw[hR];have HR:Hid ((decide (l0=m0)&&(decide (l1=m1)&&(decide (l2=m2)&&decide (l3=m3))))=R):=hR;have HBX:Hid (∀v,Below ((w.alloc (.cells #[.slice p0 N0 c0,.slice p1 N1 c1,.slice p2 N2 c2,.slice p3 N3 c3] 27)).alloc (.cells #[.slice q0 M0 d0,.slice q1 M1 d1,.slice q2 M2 d2,.slice q3 M3 d3] 27)).heap.size ((w.alloc (.cells #[.slice p0 N0 c0,.slice p1 N1 c1,.slice p2 N2 c2,.slice p3 N3 c3] 27)).alloc (.cells #[.slice q0 M0 d0,.slice q1 M1 d1,.slice q2 M2 d2,.slice q3 M3 d3] 27)) v->(v.cell? ⟨w.heap.size,0,none⟩=some (.slice p0 N0 c0)/\v.cell? ⟨w.heap.size,1,none⟩=some (.slice p1 N1 c1)/\v.cell? ⟨w.heap.size,2,none⟩=some (.slice p2 N2 c2)/\v.cell? ⟨w.heap.size,3,none⟩=some (.slice p3 N3 c3))/\v.cell? ⟨w.heap.size+1,0,none⟩=some (.slice q0 M0 d0)/\v.cell? ⟨w.heap.size+1,1,none⟩=some (.slice q1 M1 d1)/\v.cell? ⟨w.heap.size+1,2,none⟩=some (.slice q2 M2 d2)/\v.cell? ⟨w.heap.size+1,3,none⟩=some (.slice q3 M3 d3)):=fun v k=>Ut k;have HB0:Hid (Below w.heap.size w ((w.alloc (.cells #[.slice p0 N0 c0,.slice p1 N1 c1,.slice p2 N2 c2,.slice p3 N3 c3] 27)).alloc (.cells #[.slice q0 M0 d0,.slice q1 M1 d1,.slice q2 M2 d2,.slice q3 M3 d3] 27))):=bel (A0 _ _) (A0 _ _);clear hN0 hN1 hN2 hN3 hM0 hM1 hM2 hM3 hR;by_cases e0:N0=M0
 case neg=>
  have hf:R=false:=by
   rw[<-HR.out];have:decide (l0=m0)=false:=decide_eq_false fun e=>e0 (by rw[<-HN0.out,<-HM0.out,e]);rw[this];simp
  subst hf;have h1:((N0:Int)==(M0:Int))=false:=by have:(N0:Int)≠(M0:Int):=oM;simpa using this
  have h2:((N0:Int) != (M0:Int))=true:=by have:(N0:Int)≠(M0:Int):=oM;simpa using this
  have h3:(N0==M0)=false:=by simpa using e0
  clear HV0 HV1 HV2 HV3 HU0 HU1 HU2 HU3 HLE0 HLE1 HLE2 HLE3 e0;exact Zdp
 subst e0;by_cases e1:N1=M1
 case neg=>
  have hf:R=false:=by
   rw[<-HR.out];have:decide (l1=m1)=false:=decide_eq_false fun e=>e1 (by rw[<-HN1.out,<-HM1.out,e]);rw[this];simp
  subst hf;have h1:((N1:Int)==(M1:Int))=false:=by have:(N1:Int)≠(M1:Int):=oM;simpa using this
  have h2:((N1:Int) != (M1:Int))=true:=by have:(N1:Int)≠(M1:Int):=oM;simpa using this
  have h3:(N1==M1)=false:=by simpa using e1
  clear HV0 HV1 HV2 HV3 HU0 HU1 HU2 HU3 HLE0 HLE1 HLE2 HLE3 e1;exact Zdp
 subst e1;by_cases e2:N2=M2
 case neg=>
  have hf:R=false:=by
   rw[<-HR.out];have:decide (l2=m2)=false:=decide_eq_false fun e=>e2 (by rw[<-HN2.out,<-HM2.out,e]);rw[this];simp
  subst hf;have h1:((N2:Int)==(M2:Int))=false:=by have:(N2:Int)≠(M2:Int):=oM;simpa using this
  have h2:((N2:Int) != (M2:Int))=true:=by have:(N2:Int)≠(M2:Int):=oM;simpa using this
  have h3:(N2==M2)=false:=by simpa using e2
  clear HV0 HV1 HV2 HV3 HU0 HU1 HU2 HU3 HLE0 HLE1 HLE2 HLE3 e2;exact Zdp
 subst e2;by_cases e3:N3=M3
 case neg=>
  have hf:R=false:=by
   rw[<-HR.out];have:decide (l3=m3)=false:=decide_eq_false fun e=>e3 (by rw[<-HN3.out,<-HM3.out,e]);rw[this];simp
  subst hf;have h1:((N3:Int)==(M3:Int))=false:=by have:(N3:Int)≠(M3:Int):=oM;simpa using this
  have h2:((N3:Int) != (M3:Int))=true:=by have:(N3:Int)≠(M3:Int):=oM;simpa using this
  have h3:(N3==M3)=false:=by simpa using e3
  clear HV0 HV1 HV2 HV3 HU0 HU1 HU2 HU3 HLE0 HLE1 HLE2 HLE3 e3;exact Zdp
 subst e3;go_enter func21,ntmps21;go_wp2;obtain⟨V,hV⟩:=gA (((w.alloc (.cells #[.slice p0 N0 c0,.slice p1 N1 c1,.slice p2 N2 c2,.slice p3 N3 c3] 27)).alloc (.cells #[.slice q0 N0 d0,.slice q1 N1 d1,.slice q2 N2 d2,.slice q3 N3 d3] 27)))
 rw[hV]at HBX HB0 |-;have HBV:Hid (∀v,Below V.heap.size V v->(v.cell? ⟨w.heap.size,0,none⟩=some (.slice p0 N0 c0)/\v.cell? ⟨w.heap.size,1,none⟩=some (.slice p1 N1 c1)/\v.cell? ⟨w.heap.size,2,none⟩=some (.slice p2 N2 c2)/\v.cell? ⟨w.heap.size,3,none⟩=some (.slice p3 N3 c3))/\v.cell? ⟨w.heap.size+1,0,none⟩=some (.slice q0 N0 d0)/\v.cell? ⟨w.heap.size+1,1,none⟩=some (.slice q1 N1 d1)/\v.cell? ⟨w.heap.size+1,2,none⟩=some (.slice q2 N2 d2)/\v.cell? ⟨w.heap.size+1,3,none⟩=some (.slice q3 N3 d3)):=HBX.out;obtain⟨⟨z0,z1,z2,z3⟩,y0,y1,y2,y3⟩:=HBV.out V (BZ V);clear HBX hV
 go_loopw [5] (fun iv wr=>Below V.heap.size V wr/\∃j:Nat,j<=N0/\iv=.int .i64 j/\Hid (∀i (h1:i<l0.length) (h2:i<m0.length),i<j->l0[i]=m0[i])) (fun iv _=>N0-(intOf iv).toNat)
 case atStart=>exact⟨BZ V,0,gI _,rfl,fun i _ _ hi=>absurd hi (Nat.not_lt_zero _)⟩
 case round=>
  obtain⟨hbv,j,hj,rfl,hp⟩:=hrel;obtain⟨⟨g0,g1,g2,g3⟩,g4,g5,g6,g7⟩:=HBV.out wr hbv;by_cases hlt:j<N0
  .have h1:j<l0.length:=by rw[HN0.out];exact hlt
   have h2:j<m0.length:=by rw[HM0.out];exact hlt
   obtain⟨b,o,rfl,hx⟩:=HV0.at h1;obtain⟨b',o',rfl,hy⟩:=HU0.at h2;have hx':=hx.below (bel HB0.out hbv);have hy':=hy.below (bel HB0.out hbv);have x0:=hx'.at 0 rfl;have w0:=hy'.at 0 rfl;have x1:=hx'.at 1 rfl;have w1:=hy'.at 1 rfl;have x2:=hx'.at 2 rfl;have w2:=hy'.at 2 rfl;rw[Nat.add_zero]at x0 w0;have NE:=Zr l0[j] m0[j];have NX:Hid (l0[j]=m0[j]->∀i (h1:i<l0.length) (h2:i<m0.length),i<j+1->l0[i]=m0[i]):=fun e i h1 h2 hi=>by
    exact Zem
   have NB:Hid (¬l0[j]=m0[j]->R=false):=fun e=>by
    rw[<-HR.out];have:decide (l0=m0)=false:=decide_eq_false fun e2=>e ((HLE0.out (by rw[HN0.out,HM0.out])).1 e2 j h1 h2);rw[this];simp
   obtain⟨X,hX⟩:=gA (l0[j])
   obtain⟨Y,hY⟩:=gA (m0[j])
   rw[hX]at x0 x1 x2 NX NB;rw[hY]at w0 w1 w2 NX NB;simp only[hX,hY]at NE;obtain⟨D,hD⟩:=gA (decide (X=Y))
   simp only[hD]at NE;unfold pv at NE;have HNE:Hid (∀w,(binOp .neq 67 (.agg #[.string X.name,.int .i64 X.kind,.int .i64 X.len]) (.agg #[.string Y.name,.int .i64 Y.kind,.int .i64 Y.len])).run prog w=.ok (.bool (!D)) w):=NE;have i1:(0:Int)<=(j:Int):=oM;have i2:(j:Int)<(N0:Int):=oM;clear NE hX hY hp hx hy hx' hy';cases D
   .have HB:Hid (¬X=Y):=(show¬X=Y from of_decide_eq_false hD)
    clear hD;go_wp2;refine rG (fun v=>v.cell? ⟨w.heap.size,0,none⟩=some (.slice (some ⟨b,o,none⟩) N0 c0)/\v.cell? ⟨w.heap.size+1,0,none⟩=some (.slice (some ⟨b',o',none⟩) N0 d0)/\v.cell? ⟨b,o+j*3,none⟩=some (.string X.name)/\v.cell? ⟨b,o+j*3+1,none⟩=some (.int .i64 X.kind)/\v.cell? ⟨b,o+j*3+2,none⟩=some (.int .i64 X.len)/\v.cell? ⟨b',o'+j*3,none⟩=some (.string Y.name)/\v.cell? ⟨b',o'+j*3+1,none⟩=some (.int .i64 Y.kind)/\v.cell? ⟨b',o'+j*3+2,none⟩=some (.int .i64 Y.len)) fun hJ=>?_;refine Tf 0 1 2 3 4 5 ?_;refine Tc 6 7 8 ?_;refine Bo 9 ?_;clear hJ;refine Aw 10 fun K hK=>?_;refine DO rF _ _ _ _ rF _ _ _ rF rF (R9 _ _ X Y _) (HNE.out _) ?_;exact Zcl
   .have HE:Hid (X=Y):=(show X=Y from of_decide_eq_true hD)
    clear hD;go_wp2;refine rG (fun v=>v.cell? ⟨w.heap.size,0,none⟩=some (.slice (some ⟨b,o,none⟩) N0 c0)/\v.cell? ⟨w.heap.size+1,0,none⟩=some (.slice (some ⟨b',o',none⟩) N0 d0)/\v.cell? ⟨b,o+j*3,none⟩=some (.string X.name)/\v.cell? ⟨b,o+j*3+1,none⟩=some (.int .i64 X.kind)/\v.cell? ⟨b,o+j*3+2,none⟩=some (.int .i64 X.len)/\v.cell? ⟨b',o'+j*3,none⟩=some (.string Y.name)/\v.cell? ⟨b',o'+j*3+1,none⟩=some (.int .i64 Y.kind)/\v.cell? ⟨b',o'+j*3+2,none⟩=some (.int .i64 Y.len)) fun hJ=>?_;refine Tf 0 1 2 3 4 5 ?_;refine Tc 6 7 8 ?_;refine Bo 9 ?_;clear hJ;refine Aw 10 fun K hK=>?_;refine DO rF _ _ _ _ rF _ _ _ rF rF (R9 _ _ X Y _) (HNE.out _) ?_;exact Zcc
  .have hjN:j=N0:=oM;have HF0:Hid (l0=m0):=(HLE0.out (by rw[HN0.out,HM0.out])).2 fun i h1 h2=>hp.out i h1 h2 (by rw[hjN,<-HN0.out];exact h1);have HBW0:Hid (Below V.heap.size V wr):=hbv;subst hjN;clear hp hbv;go_wp2
   go_loopw [6] (fun iv wr=>Below V.heap.size V wr/\∃j:Nat,j<=N1/\iv=.int .i64 j/\Hid (∀i (h1:i<l1.length) (h2:i<m1.length),i<j->l1[i]=m1[i])) (fun iv _=>N1-(intOf iv).toNat)
   case atStart=>exact⟨HBW0.out,0,gI _,rfl,fun i _ _ hi=>absurd hi (Nat.not_lt_zero _)⟩
   case round=>
    obtain⟨hbv,j,hj,rfl,hp⟩:=hrel;obtain⟨⟨g0,g1,g2,g3⟩,g4,g5,g6,g7⟩:=HBV.out wr hbv;by_cases hlt:j<N1
    .have h1:j<l1.length:=by rw[HN1.out];exact hlt
     have h2:j<m1.length:=by rw[HM1.out];exact hlt
     obtain⟨b,o,rfl,hx⟩:=HV1.at h1;obtain⟨b',o',rfl,hy⟩:=HU1.at h2;have hx':=hx.below (bel HB0.out hbv);have hy':=hy.below (bel HB0.out hbv);have x0:=hx'.at 0 rfl;have w0:=hy'.at 0 rfl;have x1:=hx'.at 1 rfl;have w1:=hy'.at 1 rfl;rw[Nat.add_zero]at x0 w0;have NE:=neq_Ty l1[j] m1[j];have NX:Hid (l1[j]=m1[j]->∀i (h1:i<l1.length) (h2:i<m1.length),i<j+1->l1[i]=m1[i]):=fun e i h1 h2 hi=>by
      exact Zem
     have NB:Hid (¬l1[j]=m1[j]->R=false):=fun e=>by
      rw[<-HR.out];have:decide (l1=m1)=false:=decide_eq_false fun e2=>e ((HLE1.out (by rw[HN1.out,HM1.out])).1 e2 j h1 h2);rw[this];simp
     obtain⟨X,hX⟩:=gA (l1[j])
     obtain⟨Y,hY⟩:=gA (m1[j])
     rw[hX]at x0 x1 NX NB;rw[hY]at w0 w1 NX NB;simp only[hX,hY]at NE;obtain⟨D,hD⟩:=gA (decide (X=Y))
     simp only[hD]at NE;unfold DY at NE;have HNE:Hid (∀w,(binOp .neq 59 (.agg #[.int .i64 X.kind,.int .i64 X.par]) (.agg #[.int .i64 Y.kind,.int .i64 Y.par])).run prog w=.ok (.bool (!D)) w):=NE;have i1:(0:Int)<=(j:Int):=oM;have i2:(j:Int)<(N1:Int):=oM;clear NE hX hY hp hx hy hx' hy';cases D
     .have HB:Hid (¬X=Y):=(show¬X=Y from of_decide_eq_false hD)
      clear hD;go_wp2;refine rG (fun v=>v.cell? ⟨w.heap.size,1,none⟩=some (.slice (some ⟨b,o,none⟩) N1 c1)/\v.cell? ⟨w.heap.size+1,1,none⟩=some (.slice (some ⟨b',o',none⟩) N1 d1)/\v.cell? ⟨b,o+j*2,none⟩=some (.int .i64 X.kind)/\v.cell? ⟨b,o+j*2+1,none⟩=some (.int .i64 X.par)/\v.cell? ⟨b',o'+j*2,none⟩=some (.int .i64 Y.kind)/\v.cell? ⟨b',o'+j*2+1,none⟩=some (.int .i64 Y.par)) fun hJ=>?_;refine Tf 0 1 2 3 4 5 ?_;refine Tc 6 7 8 ?_;refine Bo 9 ?_;clear hJ;refine Aw 10 fun K hK=>?_;refine DO rF _ _ _ _ rF _ _ _ rF rF (Vr _ _ X Y _) (HNE.out _) ?_;exact Zcl
     .have HE:Hid (X=Y):=(show X=Y from of_decide_eq_true hD)
      clear hD;go_wp2;refine rG (fun v=>v.cell? ⟨w.heap.size,1,none⟩=some (.slice (some ⟨b,o,none⟩) N1 c1)/\v.cell? ⟨w.heap.size+1,1,none⟩=some (.slice (some ⟨b',o',none⟩) N1 d1)/\v.cell? ⟨b,o+j*2,none⟩=some (.int .i64 X.kind)/\v.cell? ⟨b,o+j*2+1,none⟩=some (.int .i64 X.par)/\v.cell? ⟨b',o'+j*2,none⟩=some (.int .i64 Y.kind)/\v.cell? ⟨b',o'+j*2+1,none⟩=some (.int .i64 Y.par)) fun hJ=>?_;refine Tf 0 1 2 3 4 5 ?_;refine Tc 6 7 8 ?_;refine Bo 9 ?_;clear hJ;refine Aw 10 fun K hK=>?_;refine DO rF _ _ _ _ rF _ _ _ rF rF (Vr _ _ X Y _) (HNE.out _) ?_;exact Zcc
    .have hjN:j=N1:=oM;have HF1:Hid (l1=m1):=(HLE1.out (by rw[HN1.out,HM1.out])).2 fun i h1 h2=>hp.out i h1 h2 (by rw[hjN,<-HN1.out];exact h1);have HBW1:Hid (Below V.heap.size V wr):=hbv;subst hjN;clear hp hbv;go_wp2
     go_loopw [7] (fun iv wr=>Below V.heap.size V wr/\∃j:Nat,j<=N2/\iv=.int .i64 j/\Hid (∀i (h1:i<l2.length) (h2:i<m2.length),i<j->l2[i]=m2[i])) (fun iv _=>N2-(intOf iv).toNat)
     case atStart=>exact⟨HBW1.out,0,gI _,rfl,fun i _ _ hi=>absurd hi (Nat.not_lt_zero _)⟩
     case round=>
      obtain⟨hbv,j,hj,rfl,hp⟩:=hrel;obtain⟨⟨g0,g1,g2,g3⟩,g4,g5,g6,g7⟩:=HBV.out wr hbv;by_cases hlt:j<N2
      .have h1:j<l2.length:=by rw[HN2.out];exact hlt
       have h2:j<m2.length:=by rw[HM2.out];exact hlt
       obtain⟨b,o,rfl,hx⟩:=HV2.at h1;obtain⟨b',o',rfl,hy⟩:=HU2.at h2;have hx':=hx.below (bel HB0.out hbv);have hy':=hy.below (bel HB0.out hbv);have x0:=hx'.at 0 rfl;have w0:=hy'.at 0 rfl;have x1:=hx'.at 1 rfl;have w1:=hy'.at 1 rfl;have x2:=hx'.at 2 rfl;have w2:=hy'.at 2 rfl;have x3:=hx'.at 3 rfl;have w3:=hy'.at 3 rfl;have x4:=hx'.at 4 rfl;have w4:=hy'.at 4 rfl;rw[Nat.add_zero]at x0 w0;have NE:=neq_Sl l2[j] m2[j];have NX:Hid (l2[j]=m2[j]->∀i (h1:i<l2.length) (h2:i<m2.length),i<j+1->l2[i]=m2[i]):=fun e i h1 h2 hi=>by
        exact Zem
       have NB:Hid (¬l2[j]=m2[j]->R=false):=fun e=>by
        rw[<-HR.out];have:decide (l2=m2)=false:=decide_eq_false fun e2=>e ((HLE2.out (by rw[HN2.out,HM2.out])).1 e2 j h1 h2);rw[this];simp
       obtain⟨X,hX⟩:=gA (l2[j])
       obtain⟨Y,hY⟩:=gA (m2[j])
       rw[hX]at x0 x1 x2 x3 x4 NX NB;rw[hY]at w0 w1 w2 w3 w4 NX NB;simp only[hX,hY]at NE;obtain⟨D,hD⟩:=gA (decide (X=Y))
       simp only[hD]at NE;unfold Sk at NE;have HNE:Hid (∀w,(binOp .neq 64 (.agg #[.int .i64 X.ty.kind,.int .i64 X.ty.par,.bool X.keep,.int .u32 X.bits,.int .i64 X.int_]) (.agg #[.int .i64 Y.ty.kind,.int .i64 Y.ty.par,.bool Y.keep,.int .u32 Y.bits,.int .i64 Y.int_])).run prog w=.ok (.bool (!D)) w):=NE;have i1:(0:Int)<=(j:Int):=oM;have i2:(j:Int)<(N2:Int):=oM;clear NE hX hY hp hx hy hx' hy';cases D
       .have HB:Hid (¬X=Y):=(show¬X=Y from of_decide_eq_false hD)
        clear hD;go_wp2;refine rG (fun v=>v.cell? ⟨w.heap.size,2,none⟩=some (.slice (some ⟨b,o,none⟩) N2 c2)/\v.cell? ⟨w.heap.size+1,2,none⟩=some (.slice (some ⟨b',o',none⟩) N2 d2)/\v.cell? ⟨b,o+j*5,none⟩=some (.int .i64 X.ty.kind)/\v.cell? ⟨b,o+j*5+1,none⟩=some (.int .i64 X.ty.par)/\v.cell? ⟨b,o+j*5+2,none⟩=some (.bool X.keep)/\v.cell? ⟨b,o+j*5+3,none⟩=some (.int .u32 X.bits)/\v.cell? ⟨b,o+j*5+4,none⟩=some (.int .i64 X.int_)/\v.cell? ⟨b',o'+j*5,none⟩=some (.int .i64 Y.ty.kind)/\v.cell? ⟨b',o'+j*5+1,none⟩=some (.int .i64 Y.ty.par)/\v.cell? ⟨b',o'+j*5+2,none⟩=some (.bool Y.keep)/\v.cell? ⟨b',o'+j*5+3,none⟩=some (.int .u32 Y.bits)/\v.cell? ⟨b',o'+j*5+4,none⟩=some (.int .i64 Y.int_)) fun hJ=>?_;refine Tf 0 1 2 3 4 5 ?_;refine Tc 6 7 8 ?_;refine Bo 9 ?_;clear hJ;refine Aw 10 fun K hK=>?_;refine DO rF _ _ _ _ rF _ _ _ rF rF (Vq _ _ X Y _) (HNE.out _) ?_;exact Zcl
       .have HE:Hid (X=Y):=(show X=Y from of_decide_eq_true hD)
        clear hD;go_wp2;refine rG (fun v=>v.cell? ⟨w.heap.size,2,none⟩=some (.slice (some ⟨b,o,none⟩) N2 c2)/\v.cell? ⟨w.heap.size+1,2,none⟩=some (.slice (some ⟨b',o',none⟩) N2 d2)/\v.cell? ⟨b,o+j*5,none⟩=some (.int .i64 X.ty.kind)/\v.cell? ⟨b,o+j*5+1,none⟩=some (.int .i64 X.ty.par)/\v.cell? ⟨b,o+j*5+2,none⟩=some (.bool X.keep)/\v.cell? ⟨b,o+j*5+3,none⟩=some (.int .u32 X.bits)/\v.cell? ⟨b,o+j*5+4,none⟩=some (.int .i64 X.int_)/\v.cell? ⟨b',o'+j*5,none⟩=some (.int .i64 Y.ty.kind)/\v.cell? ⟨b',o'+j*5+1,none⟩=some (.int .i64 Y.ty.par)/\v.cell? ⟨b',o'+j*5+2,none⟩=some (.bool Y.keep)/\v.cell? ⟨b',o'+j*5+3,none⟩=some (.int .u32 Y.bits)/\v.cell? ⟨b',o'+j*5+4,none⟩=some (.int .i64 Y.int_)) fun hJ=>?_;refine Tf 0 1 2 3 4 5 ?_;refine Tc 6 7 8 ?_;refine Bo 9 ?_;clear hJ;refine Aw 10 fun K hK=>?_;refine DO rF _ _ _ _ rF _ _ _ rF rF (Vq _ _ X Y _) (HNE.out _) ?_;exact Zcc
      .have hjN:j=N2:=oM;have HF2:Hid (l2=m2):=(HLE2.out (by rw[HN2.out,HM2.out])).2 fun i h1 h2=>hp.out i h1 h2 (by rw[hjN,<-HN2.out];exact h1);have HBW2:Hid (Below V.heap.size V wr):=hbv;subst hjN;clear hp hbv;go_wp2
       go_loopw [8] (fun iv wr=>Below V.heap.size V wr/\∃j:Nat,j<=N3/\iv=.int .i64 j/\Hid (∀i (h1:i<l3.length) (h2:i<m3.length),i<j->l3[i]=m3[i])) (fun iv _=>N3-(intOf iv).toNat)
       case atStart=>exact⟨HBW2.out,0,gI _,rfl,fun i _ _ hi=>absurd hi (Nat.not_lt_zero _)⟩
       case round=>
        obtain⟨hbv,j,hj,rfl,hp⟩:=hrel;obtain⟨⟨g0,g1,g2,g3⟩,g4,g5,g6,g7⟩:=HBV.out wr hbv;by_cases hlt:j<N3
        .have h1:j<l3.length:=by rw[HN3.out];exact hlt
         have h2:j<m3.length:=by rw[HM3.out];exact hlt
         obtain⟨b,o,rfl,hx⟩:=HV3.at h1;obtain⟨b',o',rfl,hy⟩:=HU3.at h2;have hx':=hx.below (bel HB0.out hbv);have hy':=hy.below (bel HB0.out hbv);have x0:=hx'.at 0 rfl;have w0:=hy'.at 0 rfl;have x1:=hx'.at 1 rfl;have w1:=hy'.at 1 rfl;have x2:=hx'.at 2 rfl;have w2:=hy'.at 2 rfl;have x3:=hx'.at 3 rfl;have w3:=hy'.at 3 rfl;have x4:=hx'.at 4 rfl;have w4:=hy'.at 4 rfl;have x5:=hx'.at 5 rfl;have w5:=hy'.at 5 rfl;have x6:=hx'.at 6 rfl;have w6:=hy'.at 6 rfl;rw[Nat.add_zero]at x0 w0;have NE:=Zq l3[j] m3[j];have NX:Hid (l3[j]=m3[j]->∀i (h1:i<l3.length) (h2:i<m3.length),i<j+1->l3[i]=m3[i]):=fun e i h1 h2 hi=>by
          exact Zem
         have NB:Hid (¬l3[j]=m3[j]->R=false):=fun e=>by
          rw[<-HR.out];have:decide (l3=m3)=false:=decide_eq_false fun e2=>e ((HLE3.out (by rw[HN3.out,HM3.out])).1 e2 j h1 h2);rw[this];simp
         obtain⟨X,hX⟩:=gA (l3[j])
         obtain⟨Y,hY⟩:=gA (m3[j])
         rw[hX]at x0 x1 x2 x3 x4 x5 x6 NX NB;rw[hY]at w0 w1 w2 w3 w4 w5 w6 NX NB;simp only[hX,hY]at NE;obtain⟨D,hD⟩:=gA (decide (X=Y))
         simp only[hD]at NE;unfold Ch at NE;have HNE:Hid (∀w,(binOp .neq 40 (.agg #[.int .i64 X.op,.int .i64 X.d,.int .i64 X.a,.int .i64 X.b,.int .i64 X.c,.int .i64 X.n,.int .u32 X.bits]) (.agg #[.int .i64 Y.op,.int .i64 Y.d,.int .i64 Y.a,.int .i64 Y.b,.int .i64 Y.c,.int .i64 Y.n,.int .u32 Y.bits])).run prog w=.ok (.bool (!D)) w):=NE;have i1:(0:Int)<=(j:Int):=oM;have i2:(j:Int)<(N3:Int):=oM;clear NE hX hY hp hx hy hx' hy';cases D
         .have HB:Hid (¬X=Y):=(show¬X=Y from of_decide_eq_false hD)
          clear hD;go_wp2;refine rG (fun v=>v.cell? ⟨w.heap.size,3,none⟩=some (.slice (some ⟨b,o,none⟩) N3 c3)/\v.cell? ⟨w.heap.size+1,3,none⟩=some (.slice (some ⟨b',o',none⟩) N3 d3)/\v.cell? ⟨b,o+j*7,none⟩=some (.int .i64 X.op)/\v.cell? ⟨b,o+j*7+1,none⟩=some (.int .i64 X.d)/\v.cell? ⟨b,o+j*7+2,none⟩=some (.int .i64 X.a)/\v.cell? ⟨b,o+j*7+3,none⟩=some (.int .i64 X.b)/\v.cell? ⟨b,o+j*7+4,none⟩=some (.int .i64 X.c)/\v.cell? ⟨b,o+j*7+5,none⟩=some (.int .i64 X.n)/\v.cell? ⟨b,o+j*7+6,none⟩=some (.int .u32 X.bits)/\v.cell? ⟨b',o'+j*7,none⟩=some (.int .i64 Y.op)/\v.cell? ⟨b',o'+j*7+1,none⟩=some (.int .i64 Y.d)/\v.cell? ⟨b',o'+j*7+2,none⟩=some (.int .i64 Y.a)/\v.cell? ⟨b',o'+j*7+3,none⟩=some (.int .i64 Y.b)/\v.cell? ⟨b',o'+j*7+4,none⟩=some (.int .i64 Y.c)/\v.cell? ⟨b',o'+j*7+5,none⟩=some (.int .i64 Y.n)/\v.cell? ⟨b',o'+j*7+6,none⟩=some (.int .u32 Y.bits)) fun hJ=>?_;refine Tf 0 1 2 3 4 5 ?_;refine Tc 6 7 8 ?_;refine Bo 9 ?_;clear hJ;refine Aw 10 fun K hK=>?_;refine DO rF _ _ _ _ rF _ _ _ rF rF (R8 _ _ X Y _) (HNE.out _) ?_;exact Zcl
         .have HE:Hid (X=Y):=(show X=Y from of_decide_eq_true hD)
          clear hD;go_wp2;refine rG (fun v=>v.cell? ⟨w.heap.size,3,none⟩=some (.slice (some ⟨b,o,none⟩) N3 c3)/\v.cell? ⟨w.heap.size+1,3,none⟩=some (.slice (some ⟨b',o',none⟩) N3 d3)/\v.cell? ⟨b,o+j*7,none⟩=some (.int .i64 X.op)/\v.cell? ⟨b,o+j*7+1,none⟩=some (.int .i64 X.d)/\v.cell? ⟨b,o+j*7+2,none⟩=some (.int .i64 X.a)/\v.cell? ⟨b,o+j*7+3,none⟩=some (.int .i64 X.b)/\v.cell? ⟨b,o+j*7+4,none⟩=some (.int .i64 X.c)/\v.cell? ⟨b,o+j*7+5,none⟩=some (.int .i64 X.n)/\v.cell? ⟨b,o+j*7+6,none⟩=some (.int .u32 X.bits)/\v.cell? ⟨b',o'+j*7,none⟩=some (.int .i64 Y.op)/\v.cell? ⟨b',o'+j*7+1,none⟩=some (.int .i64 Y.d)/\v.cell? ⟨b',o'+j*7+2,none⟩=some (.int .i64 Y.a)/\v.cell? ⟨b',o'+j*7+3,none⟩=some (.int .i64 Y.b)/\v.cell? ⟨b',o'+j*7+4,none⟩=some (.int .i64 Y.c)/\v.cell? ⟨b',o'+j*7+5,none⟩=some (.int .i64 Y.n)/\v.cell? ⟨b',o'+j*7+6,none⟩=some (.int .u32 Y.bits)) fun hJ=>?_;refine Tf 0 1 2 3 4 5 ?_;refine Tc 6 7 8 ?_;refine Bo 9 ?_;clear hJ;refine Aw 10 fun K hK=>?_;refine DO rF _ _ _ _ rF _ _ _ rF rF (R8 _ _ X Y _) (HNE.out _) ?_;exact Zcc
        .have hjN:j=N3:=oM;have HF3:Hid (l3=m3):=(HLE3.out (by rw[HN3.out,HM3.out])).2 fun i h1 h2=>hp.out i h1 h2 (by rw[hjN,<-HN3.out];exact h1);have HBW3:Hid (Below V.heap.size V wr):=hbv;subst hjN;clear hp hbv;go_wp2;go_ret;exact⟨Ab (by rw[<-HR.out,HF0.out,HF1.out,HF2.out,HF3.out];simp),bel HB0.out HBW3.out⟩
theorem Wb:∀x:BM,∀u∈AY x,u.oneCell'=true:=fun x u hu=>by simp[AY]at hu;rcases hu with rfl|rfl|rfl<;>rfl
theorem Tj:(prog.info? 59).map (fun i=>(i.zero,i.size,i.bytes))=some (some (.agg #[.int .i64 0,.int .i64 0]),2,16):=kR
theorem Ti:(prog.info? 64).map (fun i=>(i.zero,i.size,i.bytes))=some (some (.agg #[.int .i64 0,.int .i64 0,.bool false,.int .u32 0,.int .i64 0]),5,32):=kR
def f4(a b c d:Value)(j:Nat):Value:=if j=0 then a else if j=1 then b else if j=2 then c else d
structure Own4(B:Nat)(w:World)(u0 u1 u2 u3:Value)(c:Cd):Prop where
 sign:w.ownsRow B 67 3 u0 c.sign.length (Au AY c.sign)
 regs:w.ownsRow B 59 2 u1 c.regs.length (Au J6 c.regs)
 slots:w.ownsRow B 64 5 u2 c.slots.length (Au Jf c.slots)
 list:w.ownsRow B 40 7 u3 c.list.length (Au C9 c.list)
structure CdSz(c:Cd):Prop where
 s:c.sign.length*32<=140737488351232
 r:c.regs.length*16<=140737488351232
 l:c.slots.length*32<=140737488351232
 i:c.list.length*56<=140737488351232

theorem Gr{w:World}{B B':Nat}{t t':TypeId}{k k' n n':Nat}{v v':Value}{xs xs':List Value}(h:w.ownsRow B t k v n xs)(h':w.ownsRow B' t' k' v' n' xs')(ht:t≠t'):∀b,v.ownBlock=some b->v'.ownBlock≠some b:=by
 intro b hb hb';rcases h.2 with⟨rfl,_⟩|⟨g,cap,cur,rfl,_,hg,_⟩
 .exact absurd (show(none:Option Nat)=some b from hb) sM
 rcases h'.2 with⟨rfl,_⟩|⟨g',cap',cur',rfl,_,hg',_⟩
 .exact absurd (show(none:Option Nat)=some b from hb') sM
 have e1:g=b:=Option.some.inj hb;have e2:g'=b:=Option.some.inj hb';rw[e1]at hg;rw[e2,hg]at hg';simp only[Option.some.injEq,Obj.cells.injEq]at hg';exact ht hg'.2.1


def Di(M:Nat)(X:List Nat):List Value:=(List.range M).map fun j=>.bool (decide (j∈X))
theorem Ko(M:Nat)(X:List Nat):(Di M X).length=M:=by simp[Di]
theorem Hz{M:Nat}{X:List Nat}{j:Nat}(h:j<M):(Di M X)[j]? =some (.bool (decide (j∈X))):=by
 unfold Di;rw[List.getElem?_map,List.getElem?_range h];rfl
theorem OE(M:Nat):Di M []=List.replicate M (.bool false):=by
 apply List.ext_getElem?;intro j;by_cases h:j<M
 .rw[Hz h,List.getElem?_replicate,if_pos h];simp
 .rw[List.getElem?_eq_none Zhy,List.getElem?_eq_none sO]
theorem XG{M:Nat}{X:List Nat}{i:Ad}(hd:(A4 i.op).d≠0)(hl:i.d.toNat<M):(Di M X).set i.d.toNat (.bool true)=Di M (Jd X i):=by
 apply List.ext_getElem?;intro j;by_cases h:j<M
 .rw[Hz h,List.getElem?_set];by_cases e:i.d.toNat=j
  .rw[if_pos e,if_pos Zhy];have:j∈Jd X i:=Ra.2 (.inr ⟨hd,e.symm⟩);simp[this]
  .rw[if_neg e,Hz h];have:j∈Jd X i↔j∈X:=by
    rw[Ra];exact⟨fun q=>q.resolve_right fun q=>e q.2.symm,.inl⟩
   simp[this]
 .rw[List.getElem?_eq_none (by rw[List.length_set,Ko];omega),List.getElem?_eq_none Zhy]
theorem Ub{M:Nat}{X:List Nat}{i:Ad}(hd:(A4 i.op).d=0):Jd X i=X:=by unfold Jd;rw[if_neg (fun q=>q.1 hd)]
theorem UU{B:Nat}{V:World}{p:Option Addr}{n q:Nat}{xs:List Value}(h:V.ownsRow B 4 1 (.slice p n q) n xs)(hB:B<=V.heap.size)(hn:n<=140737488351232):
 ∃g c' w',(Builtin.append_ #[36,36] 36 #[.slice p n q,.slice (some ⟨V.heap.size,0,none⟩) 1 1]).run prog (V.alloc (.cells #[.bool false] 4))=.ok (.slice (some ⟨g,0,none⟩) (n+1) c') w'/\Below B V w'/\w'.ownsRow B 4 1 (.slice (some ⟨g,0,none⟩) (n+1) c') (n+1) (xs++[.bool false]):=by
 obtain⟨i0,hi0,hz0,hz1,hz2⟩:=info_parts EX;have hb0:Below V.heap.size V (V.alloc (.cells #[.bool false] 4)):=A0 _ _;have hsz:(V.alloc (.cells #[.bool false] 4)).heap.size=V.heap.size+1:=sM;have h0:=Ak h hb0;obtain⟨g,cap,w3,hr,hown,hgrow,hat,hlt⟩:=run_append_lies (P:=prog) (V.alloc (.cells #[.bool false] 4)) 36 36 B 4 i0 _ 1 1 underlying36 hi0 hz0 hz1 hz2 rfl dE (.slice p n q) n xs h0 ⟨V.heap.size,0,none⟩ 1 1 [.bool false] rfl
  (World.news_of_block (cs:=#[.bool false]) (t:=4) (fr:=(0,0)) (heap_alloc_new V _)) Sx dE mL oM sO _ rfl
 exact⟨g,cap,w3,hr,(hb0.mono hB).grown hgrow oM (fun q e=>(h0.lt q e).1),hown⟩
theorem G4{B:Nat}{V:World}{e t:TypeId}{z:Value}{sz by':Nat}(ht:prog.underlying t=some (.slice e))(hi:(prog.info? e).map (fun i=>(i.zero,i.size,i.bytes))=some (some z,sz,by'))(hzs:z.cells.size=sz)(hsz:0<sz){p:Option Addr}{n q:Nat}{xs:List Value}(h:V.ownsRow B e sz (.slice p n q) n xs)(hB:B<=V.heap.size)
 (cs:Array Value) (hcs:cs.size=sz) (h1:∀u∈cs.toList,u.oneCell'=true) (hn:n+1<=maxLen) (hb:(n+1)*by'<=140737488355328) (ty:TypeId):
 ∃g c' w',(Builtin.append_ #[t,t] ty #[.slice p n q,.slice (some ⟨V.heap.size,0,none⟩) 1 1]).run prog (V.alloc (.cells cs e))=.ok (.slice (some ⟨g,0,none⟩) (n+1) c') w'/\Below B V w'/\w'.ownsRow B e sz (.slice (some ⟨g,0,none⟩) (n+1) c') (n+1) (xs++cs.toList)/\(∀b,b<V.heap.size->(Value.slice p n q).ownBlock≠some b->w'.heap[b]? =V.heap[b]?)/\((Value.slice p n q).ownBlock=some g\/V.heap.size<g):=by
 obtain⟨i0,hi0,hz0,hz1,hz2⟩:=info_parts hi;have hb0:Below V.heap.size V (V.alloc (.cells cs e)):=A0 _ _;have hs:(V.alloc (.cells cs e)).heap.size=V.heap.size+1:=sM;have h0:=Ak h hb0;obtain⟨g,cap,w3,hr,hown,hgrow,hat,hlt⟩:=run_append_lies (P:=prog) (V.alloc (.cells cs e)) t ty B e i0 _ sz by' ht hi0 hz0 hz1 hz2 hzs hsz (.slice p n q) n xs h0 ⟨V.heap.size,0,none⟩ 1 1 cs.toList (by simp[hcs])
  (World.news_of_block (cs:=cs) (t:=e) (fr:=(0,0)) (heap_alloc_new V _)) h1 dE hn hb oM _ rfl
 exact Zea
section
open Go.ChangeShapes Go.WideShapes Go.ChangeAt Go.RowKit
theorem Jy:Tryz.prog.cellsOf 40=7:=kR
theorem IS:Tryz.prog.cellsOf 67=3:=kR
theorem JA:Tryz.prog.cellsOf 59=2:=kR
theorem Jz:Tryz.prog.cellsOf 64=5:=kR
theorem Pj:Tryz.prog.cellsOf 27=4:=kR
theorem Pf:Tryz.prog.bytesOf 40=56:=kR
theorem Nx:Tryz.prog.bytesOf 67=32:=kR
theorem Ph:Tryz.prog.bytesOf 59=16:=kR
theorem Pg:Tryz.prog.bytesOf 64=32:=kR
theorem FH{H:Type}{P:Program}{e:TypeId}:∀ {l:List (DataW H)} {d:DataW H},d∈l->∀n∈d.weights P e,n∈DataW.weightsAll P e l
 |[],d,h,n,hn=>by cases h
 |x::r,d,h,n,hn=>by
  simp only[DataW.weightsAll,List.mem_append];rcases List.mem_cons.1 h with rfl|h
  .exact .inl hn
  .exact .inr (FH h n hn)
section
variable {H : Type} {enc : TypeId × Value -> H} {w : World} {base : Nat} {held : Bool}
def InsOk(i:Ad):Prop:=0<=i.bits/\i.bits<4294967296
theorem VW{fuel:Nat}{cs:List Value}{x:DataW H×List MemPlace}(h:DataW.trod enc Tryz.prog w base (fun _=>true) held fuel 40 cs=some x):∃i:Ad,cs=C9 i/\InsOk i:=by
 obtain⟨xs,n,hfn,hx,hl,hxl,hf⟩:=DataW.trod_struct Tryz.underlying40 h;rw[Jy]at hl
 match cs,hl with
 |[v0,v1,v2,v3,v4,v5,v6],_=>
 match xs,hxl with
 |[y0,y1,y2,y3,y4,y5,y6],_=>
  have e0:DataW.trod enc Tryz.prog w base (fun _=>true) held n 3 [v0]=some y0:=hf 0 _ rfl;have e1:DataW.trod enc Tryz.prog w base (fun _=>true) held n 3 [v1]=some y1:=hf 1 _ rfl;have e2:DataW.trod enc Tryz.prog w base (fun _=>true) held n 3 [v2]=some y2:=hf 2 _ rfl;have e3:DataW.trod enc Tryz.prog w base (fun _=>true) held n 3 [v3]=some y3:=hf 3 _ rfl;have e4:DataW.trod enc Tryz.prog w base (fun _=>true) held n 3 [v4]=some y4:=hf 4 _ rfl;have e5:DataW.trod enc Tryz.prog w base (fun _=>true) held n 3 [v5]=some y5:=hf 5 _ rfl;have e6:DataW.trod enc Tryz.prog w base (fun _=>true) held n 38 [v6]=some y6:=hf 6 _ rfl;obtain⟨a0,c0,-,w0⟩:=DataW.trod_int Tryz.underlying3 e0;obtain⟨a1,c1,-,w1⟩:=DataW.trod_int Tryz.underlying3 e1;obtain⟨a2,c2,-,w2⟩:=DataW.trod_int Tryz.underlying3 e2;obtain⟨a3,c3,-,w3⟩:=DataW.trod_int Tryz.underlying3 e3;obtain⟨a4,c4,-,w4⟩:=DataW.trod_int Tryz.underlying3 e4;obtain⟨a5,c5,-,w5⟩:=DataW.trod_int Tryz.underlying3 e5;obtain⟨a6,c6,-,w6⟩:=DataW.trod_int Tryz.underlying38 e6;simp only[List.cons.injEq,and_true]at c0 c1 c2 c3 c4 c5 c6;subst c0 c1 c2 c3 c4 c5 c6;exact⟨⟨a0,a1,a2,a3,a4,a5,a6⟩,rfl,(bounds_u32 w6).1,Int.lt_add_one_of_le (bounds_u32 w6).2⟩
theorem VX{fuel:Nat}{cs:List Value}{x:DataW H×List MemPlace}(h:DataW.trod enc Tryz.prog w base (fun _=>true) held fuel 67 cs=some x)(hw:∀n∈x.1.weights Tryz.prog 67,n<=reachBytes):
 ∃p:BM,cs=AY p/\p.name.size<=140737488351232:=by
 obtain⟨xs,n,hfn,hx,hl,hxl,hf⟩:=DataW.trod_struct Tryz.underlying67 h;rw[IS]at hl
 match cs,hl with
 |[v0,v1,v2],_=>
 match xs,hxl with
 |[y0,y1,y2],_=>
  have e0:DataW.trod enc Tryz.prog w base (fun _=>true) held n 9 [v0]=some y0:=hf 0 _ rfl;have e1:DataW.trod enc Tryz.prog w base (fun _=>true) held n 3 [v1]=some y1:=hf 1 _ rfl;have e2:DataW.trod enc Tryz.prog w base (fun _=>true) held n 3 [v2]=some y2:=hf 2 _ rfl;obtain⟨a0,c0,hd0,w0⟩:=DataW.trod_string Tryz.underlying9 e0;obtain⟨a1,c1,hd1,w1⟩:=DataW.trod_int Tryz.underlying3 e1;obtain⟨a2,c2,hd2,w2⟩:=DataW.trod_int Tryz.underlying3 e2;simp only[List.cons.injEq,and_true]at c0 c1 c2;subst c0 c1 c2;subst hx;have hws:∀ (j:Nat) (t:TypeId) (d:DataW H),[9,3,3][j]? =some t->[y0.1,y1.1,y2.1][j]? =some d->∀n∈d.weights Tryz.prog t,n<=reachBytes:=fun j t d ht hd n hn=>by
   refine hw n ?_;show n∈DataW.weights Tryz.prog 67 (.agg [y0.1,y1.1,y2.1]);rw[DataW.weights,Tryz.underlying67];exact DataW.weights_mem_each (ts:=[9,3,3]) ht hd n hn
  have s1:a0.size<=140737488351232:=by
   have:=hws 0 _ _ rfl rfl a0.data.toList.length (by rw[hd0];simp[DataW.weights]);simpa[reachBytes]using this
  exact⟨⟨a0,a1,a2⟩,rfl,s1⟩
theorem Rz{fuel:Nat}{cs:List Value}{x:DataW H×List MemPlace}(h:DataW.trod enc Tryz.prog w base (fun _=>true) held fuel 59 cs=some x):∃t:Ty,cs=J6 t/\True:=by
 obtain⟨xs,n,hfn,hx,hl,hxl,hf⟩:=DataW.trod_struct Tryz.underlying59 h;rw[JA]at hl
 match cs,hl with
 |[v0,v1],_=>
 match xs,hxl with
 |[y0,y1],_=>
  have e0:DataW.trod enc Tryz.prog w base (fun _=>true) held n 3 [v0]=some y0:=hf 0 _ rfl;have e1:DataW.trod enc Tryz.prog w base (fun _=>true) held n 3 [v1]=some y1:=hf 1 _ rfl;obtain⟨a0,c0,-,w0⟩:=DataW.trod_int Tryz.underlying3 e0;obtain⟨a1,c1,-,w1⟩:=DataW.trod_int Tryz.underlying3 e1;simp only[List.cons.injEq,and_true]at c0 c1;subst c0 c1;exact⟨⟨a0,a1⟩,rfl,trivial⟩
def SlOk(s:Sl):Prop:=0<=s.bits/\s.bits<4294967296
theorem ZB{fuel:Nat}{cs:List Value}{x:DataW H×List MemPlace}(h:DataW.trod enc Tryz.prog w base (fun _=>true) held fuel 64 cs=some x):∃s:Sl,cs=Jf s/\SlOk s:=by
 obtain⟨xs,n,hfn,hx,hl,hxl,hf⟩:=DataW.trod_struct Tryz.underlying64 h;rw[Jz]at hl
 match cs,hl with
 |[v0,v1,v2,v3,v4],_=>
 match xs,hxl with
 |[y0,y1,y2,y3],_=>
  have e0:DataW.trod enc Tryz.prog w base (fun _=>true) held n 59 [v0,v1]=some y0:=hf 0 _ rfl;have e1:DataW.trod enc Tryz.prog w base (fun _=>true) held n 4 [v2]=some y1:=hf 1 _ rfl;have e2:DataW.trod enc Tryz.prog w base (fun _=>true) held n 38 [v3]=some y2:=hf 2 _ rfl;have e3:DataW.trod enc Tryz.prog w base (fun _=>true) held n 3 [v4]=some y3:=hf 3 _ rfl;obtain⟨t,ht,-⟩:=Rz e0;obtain⟨a1,c1,-⟩:=DataW.trod_bool Tryz.underlying4 e1;obtain⟨a2,c2,-,w2⟩:=DataW.trod_int Tryz.underlying38 e2;obtain⟨a3,c3,-,w3⟩:=DataW.trod_int Tryz.underlying3 e3;obtain⟨K,P⟩:=t;simp only[J6,List.cons.injEq,and_true]at ht c1 c2 c3;obtain⟨rfl,rfl⟩:=ht;subst c1 c2 c3;exact⟨⟨⟨K,P⟩,a1,a2,a3⟩,rfl,(bounds_u32 w2).1,Int.lt_add_one_of_le (bounds_u32 w2).2⟩
theorem Dq{α:Type}[Inhabited α]{f:α->List Value}{k bytes:Nat}{t e:TypeId}{Good:α->Prop}(hk:0<k)(hf:∀x,(f x).length=k)(ht:Tryz.prog.underlying t=some (.slice e))(hce:Tryz.prog.cellsOf e=k)(hby:Tryz.prog.bytesOf e=bytes)(hb0:0<bytes)
 (hop:∀ {fuel:Nat} {cs:List Value} {x:DataW H×List MemPlace},DataW.trod enc Tryz.prog w base (fun _=>true) held fuel e cs=some x->(∀n∈x.1.weights Tryz.prog e,n<=reachBytes)->∃a:α,cs=f a/\Good a)
 {fuel:Nat} {v:Value} {x:DataW H×List MemPlace} (h:DataW.trod enc Tryz.prog w base (fun _=>true) held fuel t [v]=some x) (hw:∀n∈x.1.weights Tryz.prog t,n<=reachBytes):
 ∃l:List α,AV k f w v l/\l.length*bytes<=140737488351232/\∀a∈l,Good a:=by
 rcases DataW.trod_slice ht h with⟨hcs,hx⟩|⟨a,len,cap,elems,rest,m,hm,hcs,hx,_,hl,_,hel,hread,_,_⟩
 .simp only[List.cons.injEq,and_true]at hcs;subst hcs;exact⟨[],⟨none,0,rfl,.inl rfl⟩,sM,fun a h=>by cases h⟩
 .simp only[List.cons.injEq,and_true]at hcs;subst hcs;subst hx;have Bl:∀i,i<len->∃q:α,(∀j,j<k->w.cell? (a.add (i*k+j))=(f q)[j]?)/\Good q:=by
   intro i hi;have h1:=hread i hi;rw[hce]at h1;have hie:i<elems.length:=oM;rw[gB hie]at h1;obtain⟨cs',h2,h3⟩:=Option.bind_eq_some_iff.1 h1;obtain⟨_,hlen3,hcell⟩:=World.cells?_some h2;obtain⟨q,hcs,hok⟩:=hop h3 (fun n hn=>hw n (by
    rw[DataW.weights,ht]
    exact List.mem_cons_of_mem _ (List.mem_append_left _ (FH (List.mem_map.2 ⟨elems[i],gD hie,rfl⟩) n hn))))
   refine⟨q,fun j hj=>?_,hok⟩;have:=hcell j hj;rw[Go.Deep.add_add,hcs]at this;exact this
  obtain⟨g,hg⟩:=Go.Deep.choose_lt Bl;have hTl:((List.range len).map g).length=len:=sM;have hbig:len*bytes<=140737488351232:=by
   have:=hw _ (by rw[DataW.weights,ht];exact List.mem_cons_self);rw[hby]at this;simp only[List.length_map,reachBytes]at this;have hln:elems.length=len:=oM;simp only[hln]at this;exact gH (Nat.mul_le_mul_right _ (Nat.le_add_right _ _)) this
  refine⟨(List.range len).map g,?_,by rw[hTl];exact hbig,?_⟩
  .refine⟨some a,cap,by rw[hTl],?_⟩;by_cases hl0:len=0
   .left;simp[hl0]
   .obtain⟨b,off,spot⟩:=a;have hne:0<(f (g 0)).length:=by rw[hf];exact hk
    have hspot:spot=none:=by
     have:=(hg 0 oM).1 0 hk;rw[gB hne]at this;simpa[Addr.add]using World.cell?_spot this
    subst hspot;refine .inr ⟨b,off,rfl,fun i hi j hj=>?_⟩;have hi':i<len:=by rw[hTl]at hi;exact hi
    obtain⟨q,-⟩:=hg i hi';have e:((List.range len).map g)[i]=g i:=sM;have hj2:j<(f (g i)).length:=by simpa[e]using hj
    have hj3:j<k:=by rw[<-hf (g i)];exact hj2
    have q':=q j hj3;rw[Nm,<-Nat.add_assoc]at q';rw[q',gB hj2];congr 1;simp[e]
  .intro q hq;obtain⟨i,hi,rfl⟩:=List.mem_map.1 hq;exact(hg i (List.mem_range.1 hi)).2
instance:Inhabited Ad:=⟨⟨0,0,0,0,0,0,0⟩⟩
instance:Inhabited Ty:=⟨⟨0,0⟩⟩
instance:Inhabited Sl:=⟨⟨⟨0,0⟩,false,0,0⟩⟩
instance:Inhabited BM:=⟨⟨⟨#[]⟩,0,0⟩⟩
theorem Tu{r:Reach}{b0:Nat}{v:Value}{d:DataW H}{pl:List MemPlace}(hv:Value.okWide Tryz.prog w r b0 27 v)(h:DataW.Trod enc Tryz.prog w base (fun _=>true) held 27 v d pl)(hw:∀n∈d.weights Tryz.prog 27,n<=reachBytes):
 ∃ (v0 v1 v2 v3:Value) (c:Cd),v=.agg #[v0,v1,v2,v3]/\CE w v0 v1 v2 v3 c/\Ba c/\c.sign.length*32<=140737488351232/\c.regs.length*16<=140737488351232/\c.slots.length*32<=140737488351232/\c.list.length*56<=140737488351232:=by
 obtain⟨cs,rfl,hsz⟩:=okWide_struct Tryz.underlying27 hv;obtain⟨fuel,hf0⟩:=h;obtain⟨xs,n,hfn,hx,hl,hxl,hf⟩:=DataW.trod_struct Tryz.underlying27 hf0;rw[Pj]at hl;obtain⟨cl,hcl⟩:=gA ((Value.agg cs).cells.toList)
 rw[hcl]at hl hf;have hcs:cs.toList=cl:=by rw[<-hcl];simp[Value.cells]
 match cl,hl with
 |[v0,v1,v2,v3],_=>
 match xs,hxl with
 |[y0,y1,y2,y3],_=>
  have e0:DataW.trod enc Tryz.prog w base (fun _=>true) held n 22 [v0]=some y0:=hf 0 _ rfl;have e1:DataW.trod enc Tryz.prog w base (fun _=>true) held n 23 [v1]=some y1:=hf 1 _ rfl;have e2:DataW.trod enc Tryz.prog w base (fun _=>true) held n 24 [v2]=some y2:=hf 2 _ rfl;have e3:DataW.trod enc Tryz.prog w base (fun _=>true) held n 25 [v3]=some y3:=hf 3 _ rfl;have hd:d=.agg [y0.1,y1.1,y2.1,y3.1]:=congrArg Prod.fst hx;have hws:∀ (j:Nat) (t:TypeId) (d:DataW H),[22,23,24,25][j]? =some t->[y0.1,y1.1,y2.1,y3.1][j]? =some d->∀n∈d.weights Tryz.prog t,n<=reachBytes:=fun j t d' ht hd' n hn=>by
   refine hw n ?_;rw[hd];show n∈DataW.weights Tryz.prog 27 (.agg [y0.1,y1.1,y2.1,y3.1]);rw[DataW.weights,Tryz.underlying27];exact DataW.weights_mem_each (ts:=[22,23,24,25]) ht hd' n hn
  obtain⟨l0,r0,s0,g0⟩:=Dq (Good:=fun p:BM=>p.name.size<=140737488351232) dE Hm Tryz.underlying22 IS Nx dE (fun h hw=>VX h hw) e0 (hws 0 _ _ rfl rfl);obtain⟨l1,r1,s1,g1⟩:=Dq (Good:=fun _:Ty=>True) dE Nk Tryz.underlying23 JA Ph dE (fun h _=>Rz h) e1 (hws 1 _ _ rfl rfl);obtain⟨l2,r2,s2,g2⟩:=Dq (Good:=SlOk) dE Nc Tryz.underlying24 Jz Pg dE (fun h _=>ZB h) e2 (hws 2 _ _ rfl rfl);obtain⟨l3,r3,s3,g3⟩:=Dq (Good:=InsOk) dE D8 Tryz.underlying25 Jy Pf dE (fun h _=>VW h) e3 (hws 3 _ _ rfl rfl);refine⟨v0,v1,v2,v3,⟨l0,l1,l2,l3⟩,?_,⟨r0,r1,r2,r3⟩,⟨by show l0.length<=_;omega,g0,by show l1.length<=_;omega,by show l2.length<=_;omega,by show l3.length<=_;omega,g2,g3⟩,s0,s1,s2,s3⟩;rw[Value.agg.injEq];apply Array.toList_inj.1;exact hcs
end
end
end Go.Proofs.YtnbccaicijcklaaGreat
