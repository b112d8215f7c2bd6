import Derived.Test.YtheanilpbnencaaCos2
import Derived.Test.YtheanilpbnencaaCos3
import Derived.Maps.OwnSet
import Derived.Test.YtheanilpbnencaaCos1
namespace Go.Proofs.Ytheanilpbnencaa
open Go.RowKit Go.Proofs.Try
set_option linter.all false
set_option maxRecDepth 100000
set_option maxHeartbeats 16000000
theorem LP(c:Int)(h0:0<=c)(h1:c<=255):(0<=Lib.indexByte (⟨#[95,46,47,45]⟩:ByteArray).data.toList c.toNat.toUInt8)↔(c=95\/c=46\/c=47\/c=45):=by
 obtain⟨k,rfl⟩:∃k:Nat,c=k:=⟨c.toNat,oM⟩
 have hk:k<256:=oM;have CG:∀k:Fin 256,(0<=Lib.indexByte [95,46,47,45] k.val.toUInt8)↔((k.val:Int)=95\/(k.val:Int)=46\/(k.val:Int)=47\/(k.val:Int)=45):=by decide+kernel
 exact CG ⟨k,hk⟩
theorem Fk(c:Int)(h0:0<=c)(h1:c<=255)(w:World):
 Calls prog 83 #[.int .u8 c] w fun e w'=>e=.returned (.bool (D5 c))/\w'=w:=by
 have hX:=LP c h0 h1;have K:=fun w=>Cl ⟨#[95,46,47,45]⟩ c w;obtain⟨x,hx⟩:=gA (Lib.indexByte (⟨#[95,46,47,45]⟩:ByteArray).data.toList c.toNat.toUInt8)
 rw[hx]at hX;simp only[hx]at K;have HK:Hid (∀w,Calls prog 85 #[.string ⟨#[95,46,47,45]⟩,.int .u8 c] w fun e w'=>e=.returned (.int .i64 x)/\w'=w):=K;clear K hx;have HP:Hid (∀b:Bool,(b=true↔(97<=c/\c<=122\/65<=c/\c<=90\/48<=c/\c<=57\/0<=x))->b=D5 c):=fun b hb=>by
  rw[Bool.eq_iff_iff,hb];unfold D5;simp only[Bool.or_eq_true,Bool.and_eq_true,decide_eq_true_eq,beq_iff_eq];omega
 have hcl:(c<48)\/(48<=c/\c<=57)\/(57<c/\c<65)\/(65<=c/\c<=90)\/(90<c/\c<97)\/(97<=c/\c<=122)\/(122<c):=oM;rcases hcl with h|h|h|h|h|h|h
 .have a1:¬ (65:Int)<=c:=oM;have a2:¬ (97:Int)<=c:=oM;have a3:¬ (48:Int)<=c:=oM;by_cases hx0:0<=x
  all_goals
   exact JO
 .have a1:¬ (65:Int)<=c:=oM;have a2:¬ (97:Int)<=c:=oM;have a3:(48:Int)<=c:=oM;have a4:c<=(57:Int):=oM;exact JO
 .have a1:¬ (65:Int)<=c:=oM;have a2:¬ (97:Int)<=c:=oM;have a3:(48:Int)<=c:=oM;have a4:¬c<=(57:Int):=oM;by_cases hx0:0<=x
  all_goals
   exact JO
 .have a1:(65:Int)<=c:=oM;have a2:¬ (97:Int)<=c:=oM;have a3:(48:Int)<=c:=oM;have a4:¬c<=(57:Int):=oM;have a5:c<=(90:Int):=oM;exact JO
 .have a1:(65:Int)<=c:=oM;have a2:¬ (97:Int)<=c:=oM;have a3:(48:Int)<=c:=oM;have a4:¬c<=(57:Int):=oM;have a5:¬c<=(90:Int):=oM;by_cases hx0:0<=x
  all_goals
   exact JO
 .have a1:(65:Int)<=c:=oM;have a2:(97:Int)<=c:=oM;have a3:(48:Int)<=c:=oM;have a4:¬c<=(57:Int):=oM;have a5:¬c<=(90:Int):=oM;have a6:c<=(122:Int):=oM;exact JO
 .have a1:(65:Int)<=c:=oM;have a2:(97:Int)<=c:=oM;have a3:(48:Int)<=c:=oM;have a4:¬c<=(57:Int):=oM;have a5:¬c<=(90:Int):=oM;have a6:¬c<=(122:Int):=oM;by_cases hx0:0<=x
  all_goals
   exact JO
theorem Fo(s:ByteArray)(hs:s.size<=140737488351232)(w:World):
 Calls prog 74 #[.string s] w fun e w'=>e=.returned (.bool (AF s))/\w'=w:=by
 by_cases h0:s.size=0
 .have he:s.toList.isEmpty=true:=by rw[Bo];simp[h0]
  have he2:(s.toList==[])=true:=by rw[Ch];simp[h0]
  have hf:AF s=false:=by unfold AF;simp[h0]
  rw[hf];go_enter func74,ntmps74;go_wp2
  all_goals(go_ret;exact⟨rfl,rfl⟩)
 .have he:s.toList.isEmpty=false:=by rw[Bo];simp[h0]
  have he2:(s.toList==[])=false:=by rw[Ch];simp[h0]
  by_cases h64:s.size<=64
  .have h64':¬ ((64:Int)<(s.size:Int)):=oM;go_enter func74,ntmps74;go_wp2
   go_loopw [13] (fun iv wr=>wr=w/\∃j:Nat,j<=s.size/\iv=.int .i64 j/\Hid (∀i (h:i<s.size),i<j->D5 (s[i].toNat:Int)=true)) (fun iv _=>s.size-(intOf iv).toNat)
   case atStart=>exact⟨rfl,0,gI _,rfl,fun i h hi=>absurd hi (Nat.not_lt_zero _)⟩
   case round=>
    obtain⟨rfl,j,hj,rfl,hp⟩:=hrel;by_cases hlt:j<s.size
    .have i1:(0:Int)<=(j:Int):=oM;have i2:(j:Int)<(s.size:Int):=oM;have hc2:(s[j].toNat:Int)<=255:=by have:=s[j].toNat_lt;omega
     have K:=fun w=>Fk (s[j].toNat:Int) oM hc2 w;have NX:Hid (D5 (s[j].toNat:Int)=true->∀i (h:i<s.size),i<j+1->D5 (s[i].toNat:Int)=true):=fun hq i h hi=>by
      exact JP
     have NB:Hid (D5 (s[j].toNat:Int)=false->AF s=false):=fun h=>E4 hlt h;obtain⟨N,hN⟩:=gA (D5 (s[j].toNat:Int))
     rw[hN]at NX NB;simp only[hN]at K;have HK:Hid (∀w,Calls prog 83 #[.int .u8 (s[j].toNat:Int)] w fun e w'=>e=.returned (.bool N)/\w'=w):=K;clear K hN hp hc2;cases N
     .go_wp2_with(go_at_call 83;refine(HK.out _).mono ?_;rintro e w1 ⟨rfl,rfl⟩);go_ret;exact⟨A9 (NB.out sM).symm,fT⟩
     .go_wp2_with(go_at_call 83;refine(HK.out _).mono ?_;rintro e w1 ⟨rfl,rfl⟩);go_roundw
      case rel=>exact⟨fT,j+1,oM,gN,NX.out sM⟩
      case measure=>simp[intOf];omega
    .exact Mn
  .have h64':(64:Int)<(s.size:Int):=oM;have hf:AF s=false:=by unfold AF;simp[h64]
   rw[hf];go_enter func74,ntmps74;go_wp2
   all_goals(go_ret;exact⟨rfl,rfl⟩)
theorem DE(p:AX)(hs:p.name.size<=140737488351232)(w:World):
 Calls prog 56 #[pv p] w fun e w'=>e=.returned (.bool (!AW p))/\Below w.heap.size w w':=by
 rw[Ej];obtain⟨X,K,L⟩:=p;unfold pv;have KN:=Fo X hs;simp only;obtain⟨N,hN⟩:=gA (AF X)
 rw[hN]at KN |-;have HK:Hid (∀w,Calls prog 74 #[.string X] w fun e w'=>e=.returned (.bool N)/\w'=w):=KN;clear KN hN;have hk:((K==1)=true/\(K==2)=false)\/((K==1)=false/\(K==2)=true)\/((K==1)=false/\(K==2)=false):=by
  exact Mk
 have hL:(1<=L/\L<=4096)\/(¬1<=L/\L<=4096)\/(1<=L/\¬L<=4096):=oM;cases N<;>rcases hk with⟨h1,h2⟩|⟨h1,h2⟩|⟨h1,h2⟩<;>rcases hL with⟨h3,h4⟩|⟨h3,h4⟩|⟨h3,h4⟩
 all_goals
  go_enter func56,ntmps56;go_wp2_with(go_at_call 74;refine(HK.out _).mono ?_;rintro e w1 ⟨rfl,rfl⟩);go_ret;exact⟨A9 (by simp[h1,h2,h3,h4]),A0 _ _⟩
theorem En(p:AX)(hs:p.name.size<=140737488351232)(w:World):
 Calls prog 75 #[pv p] w fun e w'=>e=.returned (.int .i64 (Cz p))/\Below w.heap.size w w':=by
 have KM:=DE p hs;have hm:AW p=true->1<=p.len/\p.len<=4096:=fun h=>by rw[Ej]at h;simp at h;exact h.2
 have hn:Cz p=if AW p then(if p.kind==2 then 2*p.len else p.len)else 0:=rfl;rw[hn];clear hn;obtain⟨N,hN⟩:=gA (AW p)
 rw[hN]at KM hm |-;clear hN hs;obtain⟨X,K,L⟩:=p;unfold pv at KM |-;simp only at hm KM |-;have HK:Hid (∀w,Calls prog 56 #[.agg #[.string X,.int .i64 K,.int .i64 L]] w fun e w'=>e=.returned (.bool (!N))/\Below w.heap.size w w'):=KM;clear KM;cases N
 .clear hm;go_enter func75,ntmps75;go_wp2_with(go_at_call 56;refine(HK.out _).mono ?_;rintro e w1 ⟨rfl,hb1⟩);exact Lk
 .have hL:=hm rfl;clear hm;cases h2:(K==2)
  .go_enter func75,ntmps75;go_wp2_with(go_at_call 56;refine(HK.out _).mono ?_;rintro e w1 ⟨rfl,hb1⟩;have c1:w1.cell? ⟨w.heap.size,1,none⟩=some (.int .i64 K):=(hb1.cell sM).trans sG;have c2:w1.cell? ⟨w.heap.size,2,none⟩=some (.int .i64 L):=(hb1.cell sM).trans sG);exact Lk
  .have hw:IntKind.i64.wrap (2*L)=2*L:=by rw[IntKind.wrap_i64];omega
   go_enter func75,ntmps75;go_wp2_with(go_at_call 56;refine(HK.out _).mono ?_;rintro e w1 ⟨rfl,hb1⟩;have c1:w1.cell? ⟨w.heap.size,1,none⟩=some (.int .i64 K):=(hb1.cell sM).trans sG;have c2:w1.cell? ⟨w.heap.size,2,none⟩=some (.int .i64 L):=(hb1.cell sM).trans sG);go_ret;exact⟨BS sM,bel (A0 _ _) hb1⟩
theorem FI(v:Value)(l:List AX)(hl:l.length<=140737488351232)(hM:∀p∈l,p.name.size<=140737488351232)(w:World)(hr:Rd w v l):
 Calls prog 58 #[v] w fun e w'=>e=.returned (.int .i64 (B6 l))/\Below w.heap.size w w':=by
 obtain⟨p,c,rfl,hr⟩:=hr;obtain⟨n,hn⟩:=gA (l.length)
 rw[hn]at hl |-;have HN:Hid (l.length=n):=hn;have HR:Hid (He w p l):=hr;have HM:Hid (∀p∈l,p.name.size<=140737488351232):=hM;clear hn hr hM;go_enter func58,ntmps58;go_wp2
 go_loopw [3,8] (fun tv iv wr=>Below w.heap.size w wr/\∃j:Nat,j<=n/\iv=.int .i64 j/\tv=.int .i64 (B6 (l.take j))) (fun _ iv _=>n-(intOf iv).toNat)
 case atStart=>exact⟨Bv w,0,gI _,rfl,rfl⟩
 case round=>
  obtain⟨hb,j,hj,rfl,rfl⟩:=hrel;by_cases hlt:j<n
  .have hll:j<l.length:=by rw[HN.out];exact hlt
   obtain⟨b,o,rfl,hx⟩:=HR.at hll;obtain⟨x0,x1,x2⟩:=hx.below hb;have i1:(0:Int)<=(j:Int):=oM;have i2:(j:Int)<(n:Int):=oM;have KN:=En l[j] (HM.out _ (gD hll));unfold pv at KN;have HK:Hid (∀w,Calls prog 75 #[.agg #[.string l[j].name,.int .i64 l[j].kind,.int .i64 l[j].len]] w fun e w'=>e=.returned (.int .i64 (Cz l[j]))/\Below w.heap.size w w'):=KN;have ht:B6 (l.take (j+1))=B6 (l.take j)+Cz l[j]:=by rw[De hll,F0]
   have hb1:=CF (l.take j);have hb2:=CA l[j];rw[List.length_take,HN.out,Nat.min_eq_left hj]at hb1;obtain⟨T,hT⟩:=gA (B6 (l.take j))
   obtain⟨U,hU⟩:=gA (Cz l[j])
   rw[hT,hU]at ht;rw[hT]at hb1 |-;rw[hU]at hb2 HK;have HT:Hid (B6 (l.take (j+1))=T+U):=ht;have hw1:IntKind.i64.wrap (T+U)=T+U:=by rw[IntKind.wrap_i64];omega
   clear KN ht hT hU hx;go_wp2_with(go_at_call 75;refine(HK.out _).mono ?_;rintro e w1 ⟨rfl,hb3⟩);go_roundw
   case rel=>exact⟨bel (bel hb gG) hb3,j+1,oM,gN,by rw[HT.out]⟩
   case measure=>simp[intOf];omega
  .exact Mj
section
open Go.RowKit Go.Maps Go.Proofs.Try
theorem DT(v:Value)(l:List AX)(hl:l.length<=140737488351232)(hM:∀p∈l,p.name.size<=140737488351232)(w:World)(hr:Rd w v l):
 Calls prog 73 #[v,.func (.func 56) #[] #[]] w fun e w'=>(∃x:Int,e=.returned (.int .i64 x)/\-1<=x/\(0<=x↔l.all AW=false))/\Below w.heap.size w w':=by
 obtain⟨p,c,rfl,hr⟩:=hr;obtain⟨n,hn⟩:=gA (l.length)
 rw[hn]at hl |-;have HN:Hid (l.length=n):=hn;have HR:Hid (He w p l):=hr;have HM:Hid (∀p∈l,p.name.size<=140737488351232):=hM;clear hn hr hM;go_enter func73,ntmps73;go_wp2
 go_loopw [8] (fun iv wr=>Below w.heap.size w wr/\∃j:Nat,j<=n/\iv=.int .i64 j/\Hid (∀i (h:i<l.length),i<j->AW l[i]=true)) (fun iv _=>n-(intOf iv).toNat)
 case atStart=>exact⟨Bv w,0,gI _,rfl,fun i h hi=>absurd hi (Nat.not_lt_zero _)⟩
 case round=>
  obtain⟨hb,j,hj,rfl,hp⟩:=hrel;by_cases hlt:j<n
  .have hll:j<l.length:=by rw[HN.out];exact hlt
   obtain⟨b,o,rfl,hx⟩:=HR.at hll;obtain⟨x0,x1,x2⟩:=hx.below hb;have i1:(0:Int)<=(j:Int):=oM;have i2:(j:Int)<(n:Int):=oM;have KN:=DE l[j] (HM.out _ (gD hll));unfold pv at KN;have NX:Hid (AW l[j]=true->∀i (h:i<l.length),i<j+1->AW l[i]=true):=fun hq i h hi=>by
    exact JP
   have NB:Hid (AW l[j]=false->l.all AW=false):=fun h=>List.all_eq_false.2 ⟨l[j],gD hll,by rw[h];decide⟩;obtain⟨N,hN⟩:=gA (AW l[j])
   rw[hN]at NX NB;simp only[hN]at KN;have HK:Hid (∀w,Calls prog 56 #[.agg #[.string l[j].name,.int .i64 l[j].kind,.int .i64 l[j].len]] w fun e w'=>e=.returned (.bool (!N))/\Below w.heap.size w w'):=KN;clear KN hN hp hx;cases N
   .go_wp2_with(go_at_call 56;refine(HK.out _).mono ?_;rintro e w1 ⟨rfl,hb3⟩);go_ret;exact⟨⟨_,rfl,oM,⟨fun _=>NB.out sM,fun _=>by omega⟩⟩,bel hb hb3⟩
   .go_wp2_with(go_at_call 56;refine(HK.out _).mono ?_;rintro e w1 ⟨rfl,hb3⟩);go_roundw
    case rel=>exact⟨bel hb hb3,j+1,oM,gN,NX.out sM⟩
    case measure=>simp[intOf];omega
  .have:j=n:=oM;subst this;have HF:Hid (l.all AW=true):=List.all_eq_true.2 fun q hq=>by
    obtain⟨i,hi,rfl⟩:=List.mem_iff_getElem.1 hq;exact Ll
   clear hp;go_wp2;go_ret;exact⟨⟨_,rfl,oM,⟨fun h=>absurd h oM,fun h=>absurd h (by rw[HF.out];decide)⟩⟩,hb⟩
theorem Ee(v:Value)(l:List AX)(hl:l.length<=140737488351232)(hM:∀p∈l,p.name.size<=140737488351232)(w:World)(hr:Rd w v l):
 Calls prog 55 #[v,.func (.func 56) #[] #[]] w fun e w'=>e=.returned (.bool (!l.all AW))/\Below w.heap.size w w':=by
 have HK:Hid (Calls prog 73 #[v,.func (.func 56) #[] #[]] w fun e w'=>(∃x:Int,e=.returned (.int .i64 x)/\-1<=x/\(0<=x↔l.all AW=false))/\Below w.heap.size w w'):=DT v l hl hM w hr;obtain⟨N,hN⟩:=gA (l.all AW)
 rw[hN]at HK |-;clear hN;go_enter func55,ntmps55;go_wp2_with(go_at_call 73;refine HK.mono ?_;rintro e w1 ⟨⟨x,rfl,hx1,hx2⟩,hb1⟩;have HX:Hid (0<=x↔N=false):=hx2;clear hx2);go_ret;refine⟨A9 ?_,hb1⟩;have:=HX.out;cases N
 .simp only[Bool.not_false,decide_eq_true_eq];exact this.2 rfl
 .simp only[Bool.not_true,decide_eq_false_iff_not];intro h;exact absurd (this.1 h) dE
end
section
open Go.RowKit Go.Maps Go.WideMaps Go.Proofs.Try
def Cu(s:ByteArray):Lit:=.string s.data.toList
theorem EF{a b:ByteArray}(h:Cu a=Cu b):a=b:=by
 unfold Cu at h;injection h with h;exact Hl h
theorem Bq(s:ByteArray):∀ (l:List AX) (p:AX),Av s (l++[p])=match Av s l with |some i=>some i|none=>if p.name=s then some l.length else none
 |[],p=>by simp[Av]
 |q::l,p=>by
  rw[List.cons_append];simp only[Av];by_cases h:q.name=s
  .rw[if_pos h,if_pos h]
  .rw[if_neg h,if_neg h,Bq s l p];cases Av s l with
   |some i=>rfl
   |none=>
    simp only[Option.map_none];split
    .rfl
    .rfl
theorem EC(s:ByteArray):∀ (l:List AX),(Av s l).isSome=l.any fun q=>decide (q.name=s)
 |[]=>rfl
 |q::l=>by
  simp only[Av,List.any_cons];by_cases h:q.name=s
  .rw[if_pos h];simp[h]
  .rw[if_neg h,Option.isSome_map,EC s l];simp[h]
theorem BV:∀ (l:List AX) (p:AX),AD (l++[p])=(AD l||(Av p.name l).isSome)
 |[],p=>rfl
 |q::l,p=>by
  rw[List.cons_append];simp only[AD,List.any_append,List.any_cons,List.any_nil,BV l p,EC];have e:decide (p.name=q.name)=decide (q.name=p.name):=by rw[decide_eq_decide];exact eq_comm
  rw[e];cases(l.any fun r=>decide (r.name=q.name))<;>cases(AD l)<;>cases(decide (q.name=p.name))<;>cases(l.any fun r=>decide (r.name=p.name))<;>rfl
structure BF(l:List AX)(D:DataW Unit):Prop where
 has:∀s,Maps.has D (Cu s)=(Av s l).isSome
 val:∀s i z,Av s l=some i->D.atKey (Cu s) z=.lit (.int .i64 (i:Int))
 no:AD l=false->Maps.size D=l.length
 yes:AD l=true->Maps.size D<l.length
theorem Ff:BF [] (.map []):=⟨fun _=>rfl,fun s i z h=>by simp[Av]at h,fun _=>rfl,fun h=>by simp[AD]at h⟩
theorem Fg{l:List AX}{D:DataW Unit}(h:BF l D){p:AX}(hh:Maps.has D (Cu p.name)=true):BF (l++[p]) D:=by
 have hp:(Av p.name l).isSome=true:=by rw[<-h.has];exact hh
 have hf:∀s,Av s (l++[p])=Av s l:=fun s=>by
  rw[Bq];cases e:Av s l with
  |some i=>rfl
  |none=>
   simp only;rw[if_neg];rintro rfl;rw[e]at hp;exact absurd hp dE
 have hle:Maps.size D<=l.length:=by
  cases e:AD l
  .exact Nat.le_of_eq (h.no e)
  .exact Nat.le_of_lt (h.yes e)
 refine⟨fun s=>by rw[hf];exact h.has s,fun s i z e=>h.val s i z (by rw[<-hf];exact e),fun e=>?_,fun e=>?_⟩
 .rw[BV,hp,Bool.or_true]at e;exact absurd e dE
 .simp only[List.length_append,List.length_cons,List.length_nil];omega
theorem Fe{l:List AX}{D:DataW Unit}(h:BF l D)(ht:Tidy D){p:AX}(hh:Maps.has D (Cu p.name)=false):BF (l++[p]) (D.put (Cu p.name) (.lit (.int .i64 (l.length:Int)))):=by
 have hp:(Av p.name l).isSome=false:=by rw[<-h.has];exact hh
 have hpn:Av p.name l=none:=by simpa using hp
 have hsz:Maps.size (D.put (Cu p.name) (.lit (.int .i64 (l.length:Int))))=Maps.size D+1:=by rw[size_put ht,hh];rfl
 refine⟨fun s=>?_,fun s i z e=>?_,fun e=>?_,fun e=>?_⟩
 .by_cases hs:s=p.name
  .subst hs;rw[has_put_same ht.isMap (show WideAt.IsKeyLit (Cu p.name)from trivial),Bq,hpn];simp
  .rw[has_put_other (fun e=>hs (EF e)),h.has,Bq];cases e:Av s l with
   |some i=>rfl
   |none=>simp only;rw[if_neg (fun e=>hs e.symm)]
 .by_cases hs:s=p.name
  .subst hs;rw[Bq,hpn]at e;simp at e;subst e;exact atKey_put_same ht.isMap (show WideAt.IsKeyLit (Cu p.name)from trivial) _ _
  .rw[atKey_put_other (fun e=>hs (EF e))];refine h.val s i z ?_;rw[Bq]at e;cases e2:Av s l with
   |some j=>rw[e2]at e;exact e
   |none=>rw[e2]at e;simp only at e;rw[if_neg (fun e=>hs e.symm)]at e;exact absurd e sM
 .rw[BV,hp,Bool.or_false]at e;rw[hsz,h.no e];simp
 .rw[BV,hp,Bool.or_false]at e;have:=h.yes e;rw[hsz];simp only[List.length_append,List.length_cons,List.length_nil];omega
theorem J6:Keyed prog 9:=string_keyed underlying9
theorem JN(w:World):(zeroValue 3).run prog w=.ok (.int .i64 0) w:=kR
def Ca(w:World)(b n:Nat)(D:DataW Unit):Prop:=w.ownsMap prog 9 (plainElem prog 3) b n D
theorem Ca.below{w w':World}{b n:Nat}{D:DataW Unit}(h:Ca w b n D)(k:Below w.heap.size w w'):Ca w' b n D:=
 World.ownsMap.kept h (row:=none) ⟨k.os,k.tape,k.output,k.size,fun j hj _=>k.block j hj⟩ sM
theorem Fc(v:Value)(l:List AX)(hl:l.length<=140737488351232)(hM:∀p∈l,p.name.size<=140737488351232)(w:World)(hr:Rd w v l):
 Calls prog 57 #[v] w fun e w'=>∃D,e=.returned (.map (some w.heap.size))/\Ca w' w.heap.size l.length D/\BF l D/\Below w.heap.size w w':=by
 obtain⟨p,c,rfl,hr⟩:=hr;obtain⟨n,hn⟩:=gA (l.length)
 rw[hn]at hl |-;have HN:Hid (l.length=n):=hn;have HR:Hid (He w p l):=hr;have HM:Hid (∀p∈l,p.name.size<=140737488351232):=hM;clear hn hr hM;have hmm:=@run_makeMap prog;go_enter func57,ntmps57;go_wp2
 go_loopw [11] (fun iv wr=>Below w.heap.size w wr/\∃j:Nat,j<=n/\iv=.int .i64 j/\∃D,Hid (Ca wr w.heap.size j D/\BF (l.take j) D)) (fun iv _=>n-(intOf iv).toNat)
 case atStart=>exact⟨A0 _ _,0,gI _,rfl,.map [],World.ownsMap_made _ _ _ _,Ff⟩
 case round=>
  obtain⟨hb,j,hj,rfl,D,hD⟩:=hrel;by_cases hlt:j<n
  .have hll:j<l.length:=by rw[HN.out];exact hlt
   obtain⟨b,o,rfl,hx⟩:=HR.at hll;obtain⟨x0,x1,x2⟩:=hx.below hb;have i1:(0:Int)<=(j:Int):=oM;have i2:(j:Int)<(n:Int):=oM;have hkey:keyOf prog 9 (.string l[j].name)=some (Cu l[j].name):=keyOf_string_mk underlying9 (by have:=HM.out _ (gD hll);unfold maxLen;omega);have HT:Hid (l.take (j+1)=l.take j++[l[j]]/\(l.take j).length=j):=⟨De hll,by rw[List.length_take];omega⟩
   have hwf:(Lit.int .i64 (j:Int)).wf=true:=WalkArith.wf_i64 oM;have hown:Hid (Ca (wr.alloc (.cells #[.string l[j].name,.int .i64 l[j].kind,.int .i64 l[j].len] 63)) w.heap.size j D):=hD.1.below (A0 _ _);have HF:Hid (BF (l.take j) D):=hD.2;clear hD hx;cases hsn:Maps.has D (Cu l[j].name)
   .have HS:Hid (Maps.has D (Cu l[j].name)=false):=hsn;have tok:True:=trivial;clear hsn;go_wp2_with(first
     |(at_lookup;have _t:=tok;refine wpList_lookup_own_ok_int _ rfl _ _ 105 rfl 9 3 .i64 J6 underlying105 underlying3 (JN _) w.heap.size j D rfl hown.out _ _ rfl hkey ?_;intro c hat hwc;rw[HS.out];clear hat hwc tok)
     |(at_mapUpdate;refine wpList_mapUpdate_own _ rfl _ _ _ 105 rfl 9 3 J6 underlying105 _ w.heap.size j D rfl hown.out mL _ _ _ rfl rfl hkey _ [] (plainElem_int underlying3 hwf) ?_;intro w1 hown1 hgrow1;have H1:Hid (Ca w1 w.heap.size (j+1) (D.put (Cu l[j].name) (.lit (.int .i64 (j:Int))))/\World.grownBy _ w1 (some w.heap.size)):=⟨hown1,hgrow1⟩;clear hown1 hgrow1))
    go_roundw
    case rel=>
     refine⟨?_,j+1,oM,gN,_,H1.1,?_⟩
     .exact Below.grown (bel hb (A0 _ _)) H1.2 (by have:=hb.size;simp;omega) (fun k e=>by cases e;exact gF _)
     .rw[HT.1];have:=Fe HF.out (World.ownsMap.tidy hown.out J6) HS.out;rw[HT.2]at this;exact this
    case measure=>simp[intOf];omega
   .have HS:Hid (Maps.has D (Cu l[j].name)=true):=hsn;clear hsn;go_wp2_with(at_lookup;refine wpList_lookup_own_ok_int _ rfl _ _ 105 rfl 9 3 .i64 J6 underlying105 underlying3 (JN _) w.heap.size j D rfl hown.out _ _ rfl hkey ?_;intro c hat hwc;rw[HS.out];clear hat hwc);go_roundw
    case rel=>
     refine⟨bel hb (A0 _ _),j+1,oM,gN,D,World.ownsMap.mono hown.out (Nat.le_succ _),?_⟩;rw[HT.1];exact Fg HF.out HS.out
    case measure=>simp[intOf];omega
  .have:j=n:=oM;subst this;have HF:Hid (Ca wr w.heap.size j D/\BF l D):=⟨hD.1,by have:=hD.2;rw[List.take_of_length_le (by rw[HN.out];exact gF _)]at this;exact this⟩
   clear hD;go_wp2;go_ret;exact⟨D,rfl,HF.1,HF.2,hb⟩
end
section
open Go.RowKit Go.Maps Go.WideMaps Go.Proofs.Try
theorem FH(v:Value)(l:List AX)(hl:l.length<=140737488351232)(hM:∀p∈l,p.name.size<=140737488351232)(w:World)(hr:Rd w v l):
 Calls prog 39 #[v] w fun e w'=>e=.returned (.int .i64 (Ar l))/\Below w.heap.size w w':=by
 have K1:=Ee v l hl hM w hr;have K2:=fun w h=>Fc v l hl hM w h;have K3:=fun w h=>FI v l hl hM w h;have HR:Hid (Rd w v l):=hr;have htb:=CF l;unfold Ar;obtain⟨p,c,rfl,_⟩:=hr;obtain⟨n,hn⟩:=gA (l.length)
 obtain⟨N,hN⟩:=gA (l.all AW)
 obtain⟨T,hT⟩:=gA (B6 l)
 rw[hn]at K1 K2 K3 HR hl htb |-;rw[hN]at K1 |-;rw[hT]at htb |-;simp only[hT]at K3;have HK1:Hid (Calls prog 55 #[.slice p n c,.func (.func 56) #[] #[]] w fun e w'=>e=.returned (.bool (!N))/\Below w.heap.size w w'):=K1;have HK2:Hid (∀w,Rd w (.slice p n c) l->Calls prog 57 #[.slice p n c] w fun e w'=>∃D,e=.returned (.map (some w.heap.size))/\Ca w' w.heap.size n D/\BF l D/\Below w.heap.size w w'):=K2;have HK3:Hid (∀w,Rd w (.slice p n c) l->Calls prog 58 #[.slice p n c] w fun e w'=>e=.returned (.int .i64 T)/\Below w.heap.size w w'):=K3;have HN:Hid (l.length=n):=hn;clear K1 K2 K3 hN hT hM hn;by_cases h64:n>64
 .have h64':(64:Int)<(n:Int):=oM;rw[if_pos h64];clear h64;go_enter func39,ntmps39;go_wp2
  all_goals(go_ret;exact⟨rfl,Bv w⟩)
 .have h64':¬ (64:Int)<(n:Int):=oM;rw[if_neg h64];clear h64;cases N
  .rw[if_pos rfl];go_enter func39,ntmps39;go_wp2_with(go_at_call 55;refine HK1.mono ?_;rintro e w1 ⟨rfl,hb1⟩)
   all_goals(go_ret;exact⟨rfl,hb1⟩)
  .rw[if_neg dE];cases htw:AD l
   .rw[if_neg dE];have HW:Hid (AD l=false):=htw;clear htw;by_cases h3:T>65536
    .rw[if_pos h3];have h3':(65536:Int)<T:=oM;exact M6
    .rw[if_neg h3];have h3':¬ (65536:Int)<T:=oM;exact M6
   .rw[if_pos rfl];have HW:Hid (AD l=true):=htw;clear htw;go_enter func39,ntmps39;go_wp2_with(first
     |(go_at_call 55;refine HK1.mono ?_;rintro e w1 ⟨rfl,hb1⟩)
     |(go_at_call 57;refine(HK2.out _ (HR.below hb1)).mono ?_;rintro e w2 ⟨D,rfl,hm,hf,hb2⟩;have HM1:Hid (Ca w2 w1.heap.size n D):=hm;have hs:Maps.size D<n:=(by have:=hf.yes HW.out;rw[HN.out]at this;exact this);have hs2:(Maps.size D:Int)<(n:Int):=oM;clear hm hf hs)
     |(have _t:=HM1;at_len;refine wpList_len_own _ rfl _ 105 rfl 9 3 underlying105 _ w1.heap.size n D rfl HM1.out ?_;clear HM1))
    all_goals(go_ret;exact⟨rfl,bel hb1 hb2⟩)
end
theorem DO(C:Nat)(v0 v1 v2 v3:Value)(c:Cd)(hk:AJ c)(w:World)(hc:AM w C v0 v1 v2 v3 c):
 Calls prog 40 #[.pointer (some ⟨C,0,none⟩)] w fun e w'=>e=.returned (.bool (Af c))/\Below w.heap.size w w':=by
 obtain⟨hcc,hcv⟩:=hc;have c0:=hcc.at 0 rfl;have c1:=hcc.at 1 rfl;rw[Nat.zero_add]at c0 c1;have hC:=Ac c0;simp only at hC;have hr:=hcv.regs;obtain⟨p,q,rfl,hrr⟩:=hcv.regs;obtain⟨p0,q0,rfl,hrr0⟩:=hcv.sign;have HB:=hk.regsL;have HB0:=hk.signL;unfold Af;obtain⟨M,hM⟩:=gA (c.sign.length)
 rw[hM]at c0 HB0 |-;obtain⟨l,hl⟩:=gA (c.regs)
 rw[hl]at c1 hr HB |-;obtain⟨N,hN⟩:=gA (l.length)
 have HN:Hid (l.length=N):=hN;rw[hN]at c1 hr HB;have HR:Hid (AS 2 GA w (.slice p N q) l):=hr;clear hl hM hN hr hrr hrr0 hcc hcv hk;go_enter func40,ntmps40;go_wp2
 go_loopw [10] (fun iv wr=>Below w.heap.size w wr/\∃j:Nat,j<=N/\iv=.int .i64 j/\Hid (∀i (h:i<l.length),i<j->An l[i] M=true)) (fun iv _=>N-(intOf iv).toNat)
 case atStart=>exact⟨Bv w,0,gI _,rfl,fun i h hi=>absurd hi (Nat.not_lt_zero _)⟩
 case round=>
  obtain⟨hb,j,hj,rfl,hp⟩:=hrel;by_cases hlt:j<N
  .have hll:j<l.length:=by rw[HN.out];exact hlt
   obtain⟨b,o,rfl,hx⟩:=HR.at hll;have hx':=hx.below hb;have x0:=hx'.at 0 rfl;have x1:=hx'.at 1 rfl;rw[Nat.add_zero]at x0;have z0:=kc hb c0;have hC2:=Ac z0;have hb2:=Ac x0;simp only at hC2 hb2;have n1:C≠wr.heap.size:=oM;have n2:b≠wr.heap.size:=oM;have i1:(0:Int)<=(j:Int):=oM;have i2:(j:Int)<(N:Int):=oM;have KN:=Cx l[j] p0 M q0 HB0;have NX:Hid (An l[j] M=true->∀i (h:i<l.length),i<j+1->An l[i] M=true):=fun hq i h hi=>by
    exact JP
   have NB:Hid (An l[j] M=false->(l.all fun t=>An t M)=false):=fun h=>List.all_eq_false.2 ⟨l[j],gD hll,by rw[h];decide⟩;obtain⟨T,hT⟩:=gA (l[j])
   rw[hT]at x0 x1 KN NX NB;obtain⟨X,hX⟩:=gA (An T M)
   rw[hX]at NX NB;simp only[hX]at KN;obtain⟨K,P⟩:=T;unfold BI at KN;simp only at x0 x1 KN;have HK:Hid (∀w,Calls prog 59 #[.agg #[.int .i64 K,.int .i64 P],.slice p0 M q0] w fun e w'=>e=.returned (.bool X)/\Below w.heap.size w w'):=KN;have HC:Hid (∀v,Below (wr.alloc (.cells #[.int .i64 K,.int .i64 P] 47)).heap.size (wr.alloc (.cells #[.int .i64 K,.int .i64 P] 47)) v->v.cell? ⟨C,0,none⟩=some (.slice p0 M q0)/\v.cell? ⟨wr.heap.size,0,none⟩=some (.int .i64 K)/\v.cell? ⟨wr.heap.size,1,none⟩=some (.int .i64 P)):=
    fun v hv=>⟨kc hv (kc (A0 _ _) z0),kc hv sG,kc hv sG⟩
   have f1:=(HC.out _ (Bv _)).1;clear KN hT hX hp hx hx';cases X
   .go_wp2;refine rG (fun v=>v.cell? ⟨C,0,none⟩=some (.slice p0 M q0)/\v.cell? ⟨wr.heap.size,0,none⟩=some (.int .i64 K)/\v.cell? ⟨wr.heap.size,1,none⟩=some (.int .i64 P)) fun hJ=>?_;refine wpAnyH_take (i:=0) (v:=?_) A5 kR kR kR A6 (Or.inl ⟨rF,?_⟩) A7 ?_
    rotate_left 1
    ·(intro wS hSw;(try dsimp only at hSw);go_simp;try(with_reducible rfl))
    try simp only[Act.put,List.setIfInBounds_toArray,List.set_cons_zero,List.set_cons_succ]
    refine wpAnyH_take (i:=1) (v:=?_) A5 kR kR kR A6 (Or.inl ⟨rF,?_⟩) A7 ?_
    rotate_left 1
    ·(intro wS hSw;(try dsimp only at hSw);go_simp;try(with_reducible rfl))
    try simp only[Act.put,List.setIfInBounds_toArray,List.set_cons_zero,List.set_cons_succ]
    refine wpAnyH_take (i:=2) (v:=?_) A5 kR kR kR A6 (Or.inl ⟨rF,?_⟩) A7 ?_
    rotate_left 1
    ·(intro wS hSw;(try dsimp only at hSw);go_simp;try(with_reducible rfl))
    try simp only[Act.put,List.setIfInBounds_toArray,List.set_cons_zero,List.set_cons_succ]
    refine wpAnyH_take (i:=3) (v:=?_) A5 kR kR kR A6 (Or.inl ⟨rF,?_⟩) A7 ?_
    rotate_left 1
    ·(intro wS hSw;(try dsimp only at hSw);go_simp;try(with_reducible rfl))
    try simp only[Act.put,List.setIfInBounds_toArray,List.set_cons_zero,List.set_cons_succ]
    refine wpAnyH_take (i:=4) (v:=?_) A5 kR kR kR A6 (Or.inl ⟨rF,?_⟩) A7 ?_
    rotate_left 1
    ·(intro wS hSw;(try dsimp only at hSw);go_simp;try(with_reducible rfl))
    try simp only[Act.put,List.setIfInBounds_toArray,List.set_cons_zero,List.set_cons_succ]
    clear hJ;refine AH 5 fun K hK=>?_;go_simp;(go_at_call 59;refine(HK.out _).mono ?_;rintro e w1 ⟨rfl,hb1⟩;have HB1:=bel (Aa _) hb1;obtain⟨y0,y1,y2⟩:=HC.out w1 HB1);try(go_wp2_with fail)
    refine AO hK fun hJ=>?_;clear hK K;refine wpAnyH_take (i:=6) (v:=?_) A5 kR kR kR A6 (Or.inl ⟨rF,?_⟩) A7 ?_
    rotate_left 1
    ·(intro wS hSw;(try dsimp only at hSw);go_simp;try(with_reducible rfl))
    exact Mi
   .go_wp2;refine rG (fun v=>v.cell? ⟨C,0,none⟩=some (.slice p0 M q0)/\v.cell? ⟨wr.heap.size,0,none⟩=some (.int .i64 K)/\v.cell? ⟨wr.heap.size,1,none⟩=some (.int .i64 P)) fun hJ=>?_;refine wpAnyH_take (i:=0) (v:=?_) A5 kR kR kR A6 (Or.inl ⟨rF,?_⟩) A7 ?_
    rotate_left 1
    ·(intro wS hSw;(try dsimp only at hSw);go_simp;try(with_reducible rfl))
    try simp only[Act.put,List.setIfInBounds_toArray,List.set_cons_zero,List.set_cons_succ]
    refine wpAnyH_take (i:=1) (v:=?_) A5 kR kR kR A6 (Or.inl ⟨rF,?_⟩) A7 ?_
    rotate_left 1
    ·(intro wS hSw;(try dsimp only at hSw);go_simp;try(with_reducible rfl))
    try simp only[Act.put,List.setIfInBounds_toArray,List.set_cons_zero,List.set_cons_succ]
    refine wpAnyH_take (i:=2) (v:=?_) A5 kR kR kR A6 (Or.inl ⟨rF,?_⟩) A7 ?_
    rotate_left 1
    ·(intro wS hSw;(try dsimp only at hSw);go_simp;try(with_reducible rfl))
    try simp only[Act.put,List.setIfInBounds_toArray,List.set_cons_zero,List.set_cons_succ]
    refine wpAnyH_take (i:=3) (v:=?_) A5 kR kR kR A6 (Or.inl ⟨rF,?_⟩) A7 ?_
    rotate_left 1
    ·(intro wS hSw;(try dsimp only at hSw);go_simp;try(with_reducible rfl))
    try simp only[Act.put,List.setIfInBounds_toArray,List.set_cons_zero,List.set_cons_succ]
    refine wpAnyH_take (i:=4) (v:=?_) A5 kR kR kR A6 (Or.inl ⟨rF,?_⟩) A7 ?_
    rotate_left 1
    ·(intro wS hSw;(try dsimp only at hSw);go_simp;try(with_reducible rfl))
    try simp only[Act.put,List.setIfInBounds_toArray,List.set_cons_zero,List.set_cons_succ]
    clear hJ;refine AH 5 fun K hK=>?_;go_simp;(go_at_call 59;refine(HK.out _).mono ?_;rintro e w1 ⟨rfl,hb1⟩;have HB1:=bel (Aa _) hb1;obtain⟨y0,y1,y2⟩:=HC.out w1 HB1);try(go_wp2_with fail)
    refine AO hK fun hJ=>?_;clear hK K;refine wpAnyH_take (i:=6) (v:=?_) A5 kR kR kR A6 (Or.inl ⟨rF,?_⟩) A7 ?_
    rotate_left 1
    ·(intro wS hSw;(try dsimp only at hSw);go_simp;try(with_reducible rfl))
    try simp only[Act.put,List.setIfInBounds_toArray,List.set_cons_zero,List.set_cons_succ]
    refine wpAnyH_done kR ?_ _;go_wp2;go_roundw
    case rel=>exact⟨bel hb (bel (A0 _ _) HB1),j+1,oM,gN,NX.out sM⟩
    case measure=>simp[intOf];omega
  .have:j=N:=oM;subst this;have HF:Hid ((l.all fun t=>An t M)=true):=List.all_eq_true.2 fun t ht=>by
    obtain⟨i,hi,rfl⟩:=List.mem_iff_getElem.1 ht;exact Ll
   clear hp;go_wp2;go_ret;exact⟨A9 HF.symm,hb⟩
theorem DK(C:Nat)(v0 v1 v2 v3:Value)(c:Cd)(hk:AJ c)(w:World)(hc:AM w C v0 v1 v2 v3 c):
 Calls prog 41 #[.pointer (some ⟨C,0,none⟩)] w fun e w'=>e=.returned (.bool (AK c))/\Below w.heap.size w w':=by
 obtain⟨hcc,hcv⟩:=hc;have c0:=hcc.at 0 rfl;have c1:=hcc.at 2 rfl;rw[Nat.zero_add]at c0 c1;have hC:=Ac c0;simp only at hC;have hr:=hcv.slots;obtain⟨p,q,rfl,hrr⟩:=hcv.slots;obtain⟨p0,q0,rfl,hrr0⟩:=hcv.sign;have HB:=hk.slotsL;have HB0:=hk.signL;have HSB:Hid (∀s∈c.slots,0<=s.bits/\s.bits<4294967296):=hk.sbits;unfold AK;obtain⟨M,hM⟩:=gA (c.sign.length)
 rw[hM]at c0 HB0 |-;obtain⟨l,hl⟩:=gA (c.slots)
 rw[hl]at c1 hr HB HSB |-;obtain⟨N,hN⟩:=gA (l.length)
 have HN:Hid (l.length=N):=hN;rw[hN]at c1 hr HB;have HR:Hid (AS 5 Hf w (.slice p N q) l):=hr;clear hl hM hN hr hrr hrr0 hcc hcv hk;go_enter func41,ntmps41;go_wp2
 go_loopw [10] (fun iv wr=>Below w.heap.size w wr/\∃j:Nat,j<=N/\iv=.int .i64 j/\Hid (∀i (h:i<l.length),i<j->AE l[i] M=true)) (fun iv _=>N-(intOf iv).toNat)
 case atStart=>exact⟨Bv w,0,gI _,rfl,fun i h hi=>absurd hi (Nat.not_lt_zero _)⟩
 case round=>
  obtain⟨hb,j,hj,rfl,hp⟩:=hrel;by_cases hlt:j<N
  .have hll:j<l.length:=by rw[HN.out];exact hlt
   obtain⟨b,o,rfl,hx⟩:=HR.at hll;have hx':=hx.below hb;have x0:=hx'.at 0 rfl;have x1:=hx'.at 1 rfl;have x2:=hx'.at 2 rfl;have x3:=hx'.at 3 rfl;have x4:=hx'.at 4 rfl;rw[Nat.add_zero]at x0;have z0:=kc hb c0;have hC2:=Ac z0;have hb2:=Ac x0;simp only at hC2 hb2;have n1:C≠wr.heap.size:=oM;have n2:b≠wr.heap.size:=oM;have i1:(0:Int)<=(j:Int):=oM;have i2:(j:Int)<(N:Int):=oM;have KN:=Cx l[j].ty p0 M q0 HB0;have KB:=F6 l[j] (HSB.out _ (gD hll)).1 (HSB.out _ (gD hll)).2;have NX:Hid (AE l[j] M=true->∀i (h:i<l.length),i<j+1->AE l[i] M=true):=fun hq i h hi=>by
    exact JP
   have NB:Hid (AE l[j] M=false->(l.all fun t=>AE t M)=false):=fun h=>List.all_eq_false.2 ⟨l[j],gD hll,by rw[h];decide⟩;obtain⟨T,hT⟩:=gA (l[j])
   rw[hT]at x0 x1 x2 x3 x4 KN KB NX NB;have hsm:AE T M=(An T.ty M&&D6 T):=rfl;rw[hsm]at NX NB;obtain⟨X,hX⟩:=gA (An T.ty M)
   obtain⟨Y,hY⟩:=gA (D6 T)
   rw[hX,hY]at NX NB;simp only[hX]at KN;simp only[hY]at KB;obtain⟨⟨K,P⟩,Q,B,I⟩:=T;unfold BI at KN;unfold Hg at KB;simp only at x0 x1 x2 x3 x4 KN KB;have HK:Hid (∀w,Calls prog 59 #[.agg #[.int .i64 K,.int .i64 P],.slice p0 M q0] w fun e w'=>e=.returned (.bool X)/\Below w.heap.size w w'):=KN;have HBW:Hid (∀w,Calls prog 60 #[.agg #[.int .i64 K,.int .i64 P,.bool Q,.int .u32 B,.int .i64 I]] w fun e w'=>e=.returned (.bool Y)/\Below w.heap.size w w'):=KB;have HC:Hid (∀v,Below (wr.alloc (.cells #[.int .i64 K,.int .i64 P,.bool Q,.int .u32 B,.int .i64 I] 51)).heap.size (wr.alloc (.cells #[.int .i64 K,.int .i64 P,.bool Q,.int .u32 B,.int .i64 I] 51)) v->v.cell? ⟨C,0,none⟩=some (.slice p0 M q0)/\v.cell? ⟨wr.heap.size,0,none⟩=some (.int .i64 K)/\v.cell? ⟨wr.heap.size,1,none⟩=some (.int .i64 P)/\v.cell? ⟨wr.heap.size,2,none⟩=some (.bool Q)/\v.cell? ⟨wr.heap.size,3,none⟩=some (.int .u32 B)/\v.cell? ⟨wr.heap.size,4,none⟩=some (.int .i64 I)):=
    fun v hv=>⟨kc hv (kc (A0 _ _) z0),kc hv sG,kc hv sG,kc hv sG,kc hv sG,kc hv sG⟩
   have f1:=(HC.out _ (Bv _)).1;clear KN KB hT hX hY hp hx hx' hsm;cases X
   .go_wp2;refine rG (fun v=>v.cell? ⟨C,0,none⟩=some (.slice p0 M q0)/\v.cell? ⟨wr.heap.size,0,none⟩=some (.int .i64 K)/\v.cell? ⟨wr.heap.size,1,none⟩=some (.int .i64 P)/\v.cell? ⟨wr.heap.size,2,none⟩=some (.bool Q)/\v.cell? ⟨wr.heap.size,3,none⟩=some (.int .u32 B)/\v.cell? ⟨wr.heap.size,4,none⟩=some (.int .i64 I)) fun hJ=>?_;refine wpAnyH_take (i:=0) (v:=?_) A5 kR kR kR A6 (Or.inl ⟨rF,?_⟩) A7 ?_
    rotate_left 1
    ·(intro wS hSw;(try dsimp only at hSw);go_simp;try(with_reducible rfl))
    try simp only[Act.put,List.setIfInBounds_toArray,List.set_cons_zero,List.set_cons_succ]
    refine wpAnyH_take (i:=1) (v:=?_) A5 kR kR kR A6 (Or.inl ⟨rF,?_⟩) A7 ?_
    rotate_left 1
    ·(intro wS hSw;(try dsimp only at hSw);go_simp;try(with_reducible rfl))
    try simp only[Act.put,List.setIfInBounds_toArray,List.set_cons_zero,List.set_cons_succ]
    refine wpAnyH_take (i:=2) (v:=?_) A5 kR kR kR A6 (Or.inl ⟨rF,?_⟩) A7 ?_
    rotate_left 1
    ·(intro wS hSw;(try dsimp only at hSw);go_simp;try(with_reducible rfl))
    try simp only[Act.put,List.setIfInBounds_toArray,List.set_cons_zero,List.set_cons_succ]
    refine wpAnyH_take (i:=3) (v:=?_) A5 kR kR kR A6 (Or.inl ⟨rF,?_⟩) A7 ?_
    rotate_left 1
    ·(intro wS hSw;(try dsimp only at hSw);go_simp;try(with_reducible rfl))
    try simp only[Act.put,List.setIfInBounds_toArray,List.set_cons_zero,List.set_cons_succ]
    refine wpAnyH_take (i:=4) (v:=?_) A5 kR kR kR A6 (Or.inl ⟨rF,?_⟩) A7 ?_
    rotate_left 1
    ·(intro wS hSw;(try dsimp only at hSw);go_simp;try(with_reducible rfl))
    try simp only[Act.put,List.setIfInBounds_toArray,List.set_cons_zero,List.set_cons_succ]
    refine wpAnyH_take (i:=5) (v:=?_) A5 kR kR kR A6 (Or.inl ⟨rF,?_⟩) A7 ?_
    rotate_left 1
    ·(intro wS hSw;(try dsimp only at hSw);go_simp;try(with_reducible rfl))
    try simp only[Act.put,List.setIfInBounds_toArray,List.set_cons_zero,List.set_cons_succ]
    clear hJ;refine AH 6 fun K hK=>?_;go_simp;(go_at_call 59;refine(HK.out _).mono ?_;rintro e w1 ⟨rfl,hb1⟩;have HB1:=bel (Aa _) hb1;obtain⟨y0,y1,y2,y3,y4,y5⟩:=HC.out w1 HB1);try(go_wp2_with fail)
    refine AO hK fun hJ=>?_;clear hK K;refine wpAnyH_take (i:=7) (v:=?_) A5 kR kR kR A6 (Or.inl ⟨rF,?_⟩) A7 ?_
    rotate_left 1
    ·(intro wS hSw;(try dsimp only at hSw);go_simp;try(with_reducible rfl))
    try simp only[Act.put,List.setIfInBounds_toArray,List.set_cons_zero,List.set_cons_succ]
    refine wpAnyH_take (i:=8) (v:=?_) A5 kR kR kR A6 (Or.inl ⟨rF,?_⟩) A7 ?_
    rotate_left 1
    ·(intro wS hSw;(try dsimp only at hSw);go_simp;try(with_reducible rfl))
    try simp only[Act.put,List.setIfInBounds_toArray,List.set_cons_zero,List.set_cons_succ]
    refine wpAnyH_take (i:=9) (v:=undef) A5 kR kR kR A6 (Or.inr ⟨rF,rfl⟩) A7 ?_;try simp only[Act.put,List.setIfInBounds_toArray,List.set_cons_zero,List.set_cons_succ]
    refine wpAnyH_take (i:=10) (v:=undef) A5 kR kR kR A6 (Or.inr ⟨rF,rfl⟩) A7 ?_;try simp only[Act.put,List.setIfInBounds_toArray,List.set_cons_zero,List.set_cons_succ]
    refine wpAnyH_take (i:=11) (v:=undef) A5 kR kR kR A6 (Or.inr ⟨rF,rfl⟩) A7 ?_;try simp only[Act.put,List.setIfInBounds_toArray,List.set_cons_zero,List.set_cons_succ]
    refine wpAnyH_take (i:=12) (v:=?_) A5 kR kR kR A6 (Or.inl ⟨rF,?_⟩) A7 ?_
    rotate_left 1
    ·(intro wS hSw;(try dsimp only at hSw);go_simp;try(with_reducible rfl))
    exact Mi
   .cases Y
    .go_wp2;refine rG (fun v=>v.cell? ⟨C,0,none⟩=some (.slice p0 M q0)/\v.cell? ⟨wr.heap.size,0,none⟩=some (.int .i64 K)/\v.cell? ⟨wr.heap.size,1,none⟩=some (.int .i64 P)/\v.cell? ⟨wr.heap.size,2,none⟩=some (.bool Q)/\v.cell? ⟨wr.heap.size,3,none⟩=some (.int .u32 B)/\v.cell? ⟨wr.heap.size,4,none⟩=some (.int .i64 I)) fun hJ=>?_;refine wpAnyH_take (i:=0) (v:=?_) A5 kR kR kR A6 (Or.inl ⟨rF,?_⟩) A7 ?_
     rotate_left 1
     ·(intro wS hSw;(try dsimp only at hSw);go_simp;try(with_reducible rfl))
     try simp only[Act.put,List.setIfInBounds_toArray,List.set_cons_zero,List.set_cons_succ]
     refine wpAnyH_take (i:=1) (v:=?_) A5 kR kR kR A6 (Or.inl ⟨rF,?_⟩) A7 ?_
     rotate_left 1
     ·(intro wS hSw;(try dsimp only at hSw);go_simp;try(with_reducible rfl))
     try simp only[Act.put,List.setIfInBounds_toArray,List.set_cons_zero,List.set_cons_succ]
     refine wpAnyH_take (i:=2) (v:=?_) A5 kR kR kR A6 (Or.inl ⟨rF,?_⟩) A7 ?_
     rotate_left 1
     ·(intro wS hSw;(try dsimp only at hSw);go_simp;try(with_reducible rfl))
     try simp only[Act.put,List.setIfInBounds_toArray,List.set_cons_zero,List.set_cons_succ]
     refine wpAnyH_take (i:=3) (v:=?_) A5 kR kR kR A6 (Or.inl ⟨rF,?_⟩) A7 ?_
     rotate_left 1
     ·(intro wS hSw;(try dsimp only at hSw);go_simp;try(with_reducible rfl))
     try simp only[Act.put,List.setIfInBounds_toArray,List.set_cons_zero,List.set_cons_succ]
     refine wpAnyH_take (i:=4) (v:=?_) A5 kR kR kR A6 (Or.inl ⟨rF,?_⟩) A7 ?_
     rotate_left 1
     ·(intro wS hSw;(try dsimp only at hSw);go_simp;try(with_reducible rfl))
     try simp only[Act.put,List.setIfInBounds_toArray,List.set_cons_zero,List.set_cons_succ]
     refine wpAnyH_take (i:=5) (v:=?_) A5 kR kR kR A6 (Or.inl ⟨rF,?_⟩) A7 ?_
     rotate_left 1
     ·(intro wS hSw;(try dsimp only at hSw);go_simp;try(with_reducible rfl))
     try simp only[Act.put,List.setIfInBounds_toArray,List.set_cons_zero,List.set_cons_succ]
     clear hJ;refine AH 6 fun K hK=>?_;go_simp;(go_at_call 59;refine(HK.out _).mono ?_;rintro e w1 ⟨rfl,hb1⟩;have HB1:=bel (Aa _) hb1;obtain⟨y0,y1,y2,y3,y4,y5⟩:=HC.out w1 HB1);try(go_wp2_with fail)
     refine AO hK fun hJ=>?_;clear hK K;refine wpAnyH_take (i:=7) (v:=?_) A5 kR kR kR A6 (Or.inl ⟨rF,?_⟩) A7 ?_
     rotate_left 1
     ·(intro wS hSw;(try dsimp only at hSw);go_simp;try(with_reducible rfl))
     try simp only[Act.put,List.setIfInBounds_toArray,List.set_cons_zero,List.set_cons_succ]
     refine wpAnyH_take (i:=8) (v:=?_) A5 kR kR kR A6 (Or.inl ⟨rF,?_⟩) A7 ?_
     rotate_left 1
     ·(intro wS hSw;(try dsimp only at hSw);go_simp;try(with_reducible rfl))
     try simp only[Act.put,List.setIfInBounds_toArray,List.set_cons_zero,List.set_cons_succ]
     refine wpAnyH_take (i:=9) (v:=?_) A5 kR kR kR A6 (Or.inl ⟨rF,?_⟩) A7 ?_
     rotate_left 1
     ·(intro wS hSw;(try dsimp only at hSw);go_simp;try(with_reducible rfl))
     try simp only[Act.put,List.setIfInBounds_toArray,List.set_cons_zero,List.set_cons_succ]
     clear hJ;refine AH 10 fun K hK=>?_;go_simp;(go_at_call 60;refine(HBW.out _).mono ?_;rintro e w2 ⟨rfl,hb2⟩;have HB2:=bel HB1 hb2;obtain⟨y0,y1,y2,y3,y4,y5⟩:=HC.out w2 HB2);try(go_wp2_with fail)
     refine AO hK fun hJ=>?_;clear hK K;refine wpAnyH_take (i:=11) (v:=?_) A5 kR kR kR A6 (Or.inl ⟨rF,?_⟩) A7 ?_
     rotate_left 1
     ·(intro wS hSw;(try dsimp only at hSw);go_simp;try(with_reducible rfl))
     try simp only[Act.put,List.setIfInBounds_toArray,List.set_cons_zero,List.set_cons_succ]
     refine wpAnyH_take (i:=12) (v:=?_) A5 kR kR kR A6 (Or.inl ⟨rF,?_⟩) A7 ?_
     rotate_left 1
     ·(intro wS hSw;(try dsimp only at hSw);go_simp;try(with_reducible rfl))
     try simp only[Act.put,List.setIfInBounds_toArray,List.set_cons_zero,List.set_cons_succ]
     refine wpAnyH_done kR ?_ _;go_wp2;go_ret;exact⟨A9 (NB.out sM).symm,bel hb (bel (A0 _ _) HB2)⟩
    .go_wp2;refine rG (fun v=>v.cell? ⟨C,0,none⟩=some (.slice p0 M q0)/\v.cell? ⟨wr.heap.size,0,none⟩=some (.int .i64 K)/\v.cell? ⟨wr.heap.size,1,none⟩=some (.int .i64 P)/\v.cell? ⟨wr.heap.size,2,none⟩=some (.bool Q)/\v.cell? ⟨wr.heap.size,3,none⟩=some (.int .u32 B)/\v.cell? ⟨wr.heap.size,4,none⟩=some (.int .i64 I)) fun hJ=>?_;refine wpAnyH_take (i:=0) (v:=?_) A5 kR kR kR A6 (Or.inl ⟨rF,?_⟩) A7 ?_
     rotate_left 1
     ·(intro wS hSw;(try dsimp only at hSw);go_simp;try(with_reducible rfl))
     try simp only[Act.put,List.setIfInBounds_toArray,List.set_cons_zero,List.set_cons_succ]
     refine wpAnyH_take (i:=1) (v:=?_) A5 kR kR kR A6 (Or.inl ⟨rF,?_⟩) A7 ?_
     rotate_left 1
     ·(intro wS hSw;(try dsimp only at hSw);go_simp;try(with_reducible rfl))
     try simp only[Act.put,List.setIfInBounds_toArray,List.set_cons_zero,List.set_cons_succ]
     refine wpAnyH_take (i:=2) (v:=?_) A5 kR kR kR A6 (Or.inl ⟨rF,?_⟩) A7 ?_
     rotate_left 1
     ·(intro wS hSw;(try dsimp only at hSw);go_simp;try(with_reducible rfl))
     try simp only[Act.put,List.setIfInBounds_toArray,List.set_cons_zero,List.set_cons_succ]
     refine wpAnyH_take (i:=3) (v:=?_) A5 kR kR kR A6 (Or.inl ⟨rF,?_⟩) A7 ?_
     rotate_left 1
     ·(intro wS hSw;(try dsimp only at hSw);go_simp;try(with_reducible rfl))
     try simp only[Act.put,List.setIfInBounds_toArray,List.set_cons_zero,List.set_cons_succ]
     refine wpAnyH_take (i:=4) (v:=?_) A5 kR kR kR A6 (Or.inl ⟨rF,?_⟩) A7 ?_
     rotate_left 1
     ·(intro wS hSw;(try dsimp only at hSw);go_simp;try(with_reducible rfl))
     try simp only[Act.put,List.setIfInBounds_toArray,List.set_cons_zero,List.set_cons_succ]
     refine wpAnyH_take (i:=5) (v:=?_) A5 kR kR kR A6 (Or.inl ⟨rF,?_⟩) A7 ?_
     rotate_left 1
     ·(intro wS hSw;(try dsimp only at hSw);go_simp;try(with_reducible rfl))
     try simp only[Act.put,List.setIfInBounds_toArray,List.set_cons_zero,List.set_cons_succ]
     clear hJ;refine AH 6 fun K hK=>?_;go_simp;(go_at_call 59;refine(HK.out _).mono ?_;rintro e w1 ⟨rfl,hb1⟩;have HB1:=bel (Aa _) hb1;obtain⟨y0,y1,y2,y3,y4,y5⟩:=HC.out w1 HB1);try(go_wp2_with fail)
     refine AO hK fun hJ=>?_;clear hK K;refine wpAnyH_take (i:=7) (v:=?_) A5 kR kR kR A6 (Or.inl ⟨rF,?_⟩) A7 ?_
     rotate_left 1
     ·(intro wS hSw;(try dsimp only at hSw);go_simp;try(with_reducible rfl))
     try simp only[Act.put,List.setIfInBounds_toArray,List.set_cons_zero,List.set_cons_succ]
     refine wpAnyH_take (i:=8) (v:=?_) A5 kR kR kR A6 (Or.inl ⟨rF,?_⟩) A7 ?_
     rotate_left 1
     ·(intro wS hSw;(try dsimp only at hSw);go_simp;try(with_reducible rfl))
     try simp only[Act.put,List.setIfInBounds_toArray,List.set_cons_zero,List.set_cons_succ]
     refine wpAnyH_take (i:=9) (v:=?_) A5 kR kR kR A6 (Or.inl ⟨rF,?_⟩) A7 ?_
     rotate_left 1
     ·(intro wS hSw;(try dsimp only at hSw);go_simp;try(with_reducible rfl))
     try simp only[Act.put,List.setIfInBounds_toArray,List.set_cons_zero,List.set_cons_succ]
     clear hJ;refine AH 10 fun K hK=>?_;go_simp;(go_at_call 60;refine(HBW.out _).mono ?_;rintro e w2 ⟨rfl,hb2⟩;have HB2:=bel HB1 hb2;obtain⟨y0,y1,y2,y3,y4,y5⟩:=HC.out w2 HB2);try(go_wp2_with fail)
     refine AO hK fun hJ=>?_;clear hK K;refine wpAnyH_take (i:=11) (v:=?_) A5 kR kR kR A6 (Or.inl ⟨rF,?_⟩) A7 ?_
     rotate_left 1
     ·(intro wS hSw;(try dsimp only at hSw);go_simp;try(with_reducible rfl))
     try simp only[Act.put,List.setIfInBounds_toArray,List.set_cons_zero,List.set_cons_succ]
     refine wpAnyH_take (i:=12) (v:=?_) A5 kR kR kR A6 (Or.inl ⟨rF,?_⟩) A7 ?_
     rotate_left 1
     ·(intro wS hSw;(try dsimp only at hSw);go_simp;try(with_reducible rfl))
     try simp only[Act.put,List.setIfInBounds_toArray,List.set_cons_zero,List.set_cons_succ]
     refine wpAnyH_done kR ?_ _;go_wp2;go_roundw
     case rel=>exact⟨bel hb (bel (A0 _ _) HB2),j+1,oM,gN,NX.out sM⟩
     case measure=>simp[intOf];omega
  .have:j=N:=oM;subst this;have HF:Hid ((l.all fun t=>AE t M)=true):=List.all_eq_true.2 fun t ht=>by
    obtain⟨i,hi,rfl⟩:=List.mem_iff_getElem.1 ht;exact Ll
   clear hp;go_wp2;go_ret;exact⟨A9 HF.symm,hb⟩
theorem DA(C:Nat)(v0 v1 v2 v3:Value)(c:Cd)(hk:AJ c)(w:World)(hc:AM w C v0 v1 v2 v3 c):
 Calls prog 28 #[.pointer (some ⟨C,0,none⟩)] w fun e w'=>e=.returned (.int .i64 (B3 c))/\Below w.heap.size w w':=by
 have K1:=FH v0 c.sign hk.signL hk.names w hc.2.sign.rd;have K2:=fun w h=>DO C v0 v1 v2 v3 c hk w h;have K3:=fun w h=>DK C v0 v1 v2 v3 c hk w h;unfold B3;obtain⟨E,hE⟩:=gA (Ar c.sign)
 obtain⟨X,hX⟩:=gA (Af c)
 obtain⟨Y,hY⟩:=gA (AK c)
 simp only[hE]at K1 |-;simp only[hX]at K2 |-;simp only[hY]at K3 |-;have HC0:Hid (AM w C v0 v1 v2 v3 c):=hc;obtain⟨hcc,hcv⟩:=hc;have b1:=hk.regsL;have b2:=hk.slotsL;have b3:=hk.listL;obtain⟨p1,q1,rfl,r1⟩:=hcv.regs;obtain⟨p2,q2,rfl,r2⟩:=hcv.slots;obtain⟨p3,q3,rfl,r3⟩:=hcv.list;have c0:=hcc.at 0 rfl;have c1:=hcc.at 1 rfl;have c2:=hcc.at 2 rfl;have c3:=hcc.at 3 rfl;rw[Nat.zero_add]at c0 c1 c2 c3;obtain⟨N1,h1⟩:∃N,c.regs.length=N:=⟨_,rfl⟩
 obtain⟨N2,h2⟩:∃N,c.slots.length=N:=⟨_,rfl⟩
 obtain⟨N3,h3⟩:∃N,c.list.length=N:=⟨_,rfl⟩
 rw[h1]at K2 K3 c1 b1 HC0 |-;rw[h2]at K2 K3 c2 b2 HC0 |-;rw[h3]at K2 K3 c3 b3 HC0 |-;have HK1:Hid (Calls prog 39 #[v0] w fun e w'=>e=.returned (.int .i64 E)/\Below w.heap.size w w'):=K1;have HK2:Hid (∀w,AM w C v0 (.slice p1 N1 q1) (.slice p2 N2 q2) (.slice p3 N3 q3) c->Calls prog 40 #[.pointer (some ⟨C,0,none⟩)] w fun e w'=>e=.returned (.bool X)/\Below w.heap.size w w'):=K2;have HK3:Hid (∀w,AM w C v0 (.slice p1 N1 q1) (.slice p2 N2 q2) (.slice p3 N3 q3) c->Calls prog 41 #[.pointer (some ⟨C,0,none⟩)] w fun e w'=>e=.returned (.bool Y)/\Below w.heap.size w w'):=K3;have HC:Hid (∀v,Below w.heap.size w v->v.cell? ⟨C,1,none⟩=some (.slice p1 N1 q1)/\v.cell? ⟨C,2,none⟩=some (.slice p2 N2 q2)/\v.cell? ⟨C,3,none⟩=some (.slice p3 N3 q3)):=fun v hv=>⟨kc hv c1,kc hv c2,kc hv c3⟩
 clear K1 K2 K3 hE hX hY h1 h2 h3 r1 r2 r3 hcc hcv hk;by_cases hE:E=0
 .subst hE;rw[if_neg sM];by_cases s1:16384<N1\/32768<N3
  .rw[if_pos s1];by_cases s2:16384<N1
   .have s2':(16384:Int)<(N1:Int):=oM;clear s1 s2;exact LB
   .have s2':¬ (16384:Int)<(N1:Int):=oM;have s3':(32768:Int)<(N3:Int):=oM;clear s1 s2;exact LB
  .rw[if_neg s1];have s2':¬ (16384:Int)<(N1:Int):=oM;have s3':¬ (32768:Int)<(N3:Int):=oM;clear s1;by_cases s4:4096<N2
   .rw[if_pos s4];have s4':(4096:Int)<(N2:Int):=oM;clear s4;exact LB
   .rw[if_neg s4];have s4':¬ (4096:Int)<(N2:Int):=oM;clear s4;cases X
    .go_enter func28,ntmps28;go_wp2_with(first
      |(go_at_call 39;refine HK1.mono ?_;rintro e w1 ⟨rfl,hb1⟩;obtain⟨d1,d2,d3⟩:=HC.out w1 hb1)
      |(go_at_call 40;refine(HK2.out _ (HC0.below hb1)).mono ?_;rintro e w2 ⟨rfl,hb2⟩;have HB2:=bel hb1 hb2)
      |(go_at_call 41;refine(HK3.out _ (HC0.below HB2)).mono ?_;rintro e w3 ⟨rfl,hb3⟩;have HB3:=bel HB2 hb3))
     all_goals(go_ret;exact⟨rfl,HB2⟩)
    .cases Y
     .exact Mb
     .exact Mb
 .rw[if_pos hE];have hE':(E==0)=false:=by simpa using hE
  go_enter func28,ntmps28;go_wp2_with(go_at_call 39;refine HK1.mono ?_;rintro e w1 ⟨rfl,hb1⟩)
  all_goals(go_ret;exact⟨rfl,hb1⟩)
end Go.Proofs.Ytheanilpbnencaa
