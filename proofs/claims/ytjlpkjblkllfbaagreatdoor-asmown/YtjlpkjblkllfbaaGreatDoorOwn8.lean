import Derived.Test.YtjlpkjblkllfbaaGreatDoorOwn2
import Derived.Test.YtjlpkjblkllfbaaGreatDoorRows
import Derived.WalkKit
import Derived.WalkSpells
import Derived.WalkLawsBesides
import Derived.Test.YtjlpkjblkllfbaaGreatDoorOwn4
import Derived.Laws.FloatArith
import Derived.Laws.Externs
import Derived.Below
import Derived.LoopN
import Derived.Laws.IdiomStrings
import Derived.Test.YtjlpkjblkllfbaaGreatDoorOwn1
namespace Go.Proofs.YtjlpkjblkllfbaaGreatDoor
open Go.RowKit Go.Proofs.Tryz
set_option linter.all false
set_option maxRecDepth 100000
set_option maxHeartbeats 16000000
theorem Ni(w:World):Calls prog 64 #[.int .i64 30] w fun e w'=>e=.returned (.tuple #[.string ⟨#[118,45,45,45,112]⟩,.bool true])/\w'=w:=by
 exact DQ
theorem Nj(w:World):Calls prog 64 #[.int .i64 31] w fun e w'=>e=.returned (.tuple #[.string ⟨#[45,118,45,45,112]⟩,.bool true])/\w'=w:=by
 exact DQ
theorem Nk(w:World):Calls prog 64 #[.int .i64 32] w fun e w'=>e=.returned (.tuple #[.string ⟨#[97,45,45,45,115]⟩,.bool true])/\w'=w:=by
 exact DQ
theorem Nl(w:World):Calls prog 64 #[.int .i64 33] w fun e w'=>e=.returned (.tuple #[.string ⟨#[45,97,45,45,115]⟩,.bool true])/\w'=w:=by
 exact DQ
theorem Nm(w:World):Calls prog 64 #[.int .i64 34] w fun e w'=>e=.returned (.tuple #[.string ⟨#[45,119,45,45,45]⟩,.bool true])/\w'=w:=by
 exact DQ
theorem Nn(w:World):Calls prog 64 #[.int .i64 35] w fun e w'=>e=.returned (.tuple #[.string ⟨#[45,45,45,45,45]⟩,.bool true])/\w'=w:=by
 exact DQ
theorem No(w:World):Calls prog 64 #[.int .i64 36] w fun e w'=>e=.returned (.tuple #[.string ⟨#[45,45,45,45,113]⟩,.bool true])/\w'=w:=by
 exact DQ
theorem Np(w:World):Calls prog 64 #[.int .i64 37] w fun e w'=>e=.returned (.tuple #[.string ⟨#[45,45,45,45,45]⟩,.bool true])/\w'=w:=by
 exact DQ
theorem N9(w:World):Calls prog 64 #[.int .i64 22] w fun e w'=>e=.returned (.tuple #[.string ⟨#[119,119,119,45,45]⟩,.bool true])/\w'=w:=by
 exact DQ
theorem Na(w:World):Calls prog 64 #[.int .i64 23] w fun e w'=>e=.returned (.tuple #[.string ⟨#[119,119,119,45,45]⟩,.bool true])/\w'=w:=by
 exact DQ
theorem Nb(w:World):Calls prog 64 #[.int .i64 24] w fun e w'=>e=.returned (.tuple #[.string ⟨#[119,119,119,45,45]⟩,.bool true])/\w'=w:=by
 exact DQ
theorem Nc(w:World):Calls prog 64 #[.int .i64 25] w fun e w'=>e=.returned (.tuple #[.string ⟨#[119,119,45,45,45]⟩,.bool true])/\w'=w:=by
 exact DQ
theorem Nd(w:World):Calls prog 64 #[.int .i64 26] w fun e w'=>e=.returned (.tuple #[.string ⟨#[119,119,119,119,45]⟩,.bool true])/\w'=w:=by
 exact DQ
theorem Nf(w:World):Calls prog 64 #[.int .i64 27] w fun e w'=>e=.returned (.tuple #[.string ⟨#[119,119,119,45,45]⟩,.bool true])/\w'=w:=by
 exact DQ
theorem Ng(w:World):Calls prog 64 #[.int .i64 28] w fun e w'=>e=.returned (.tuple #[.string ⟨#[119,119,119,45,45]⟩,.bool true])/\w'=w:=by
 exact DQ
theorem Nh(w:World):Calls prog 64 #[.int .i64 29] w fun e w'=>e=.returned (.tuple #[.string ⟨#[118,45,45,45,112]⟩,.bool true])/\w'=w:=by
 exact DQ
theorem R7(w:World):Calls prog 64 #[.int .i64 1] w fun e w'=>e=.returned (.tuple #[.string ⟨#[110,45,45,45,45]⟩,.bool true])/\w'=w:=by
 exact DQ
theorem R8(w:World):Calls prog 64 #[.int .i64 2] w fun e w'=>e=.returned (.tuple #[.string ⟨#[119,45,45,45,105]⟩,.bool true])/\w'=w:=by
 exact DQ
theorem R9(w:World):Calls prog 64 #[.int .i64 3] w fun e w'=>e=.returned (.tuple #[.string ⟨#[97,99,45,45,45]⟩,.bool true])/\w'=w:=by
 exact DQ
theorem Ra(w:World):Calls prog 64 #[.int .i64 4] w fun e w'=>e=.returned (.tuple #[.string ⟨#[100,120,120,45,45]⟩,.bool true])/\w'=w:=by
 exact DQ
theorem Rb(w:World):Calls prog 64 #[.int .i64 5] w fun e w'=>e=.returned (.tuple #[.string ⟨#[100,120,120,45,45]⟩,.bool true])/\w'=w:=by
 exact DQ
theorem Rc(w:World):Calls prog 64 #[.int .i64 6] w fun e w'=>e=.returned (.tuple #[.string ⟨#[100,120,120,45,45]⟩,.bool true])/\w'=w:=by
 exact DQ
theorem Re(w:World):Calls prog 64 #[.int .i64 7] w fun e w'=>e=.returned (.tuple #[.string ⟨#[100,120,120,45,45]⟩,.bool true])/\w'=w:=by
 exact DQ
theorem Rf(w:World):Calls prog 64 #[.int .i64 8] w fun e w'=>e=.returned (.tuple #[.string ⟨#[100,120,120,45,45]⟩,.bool true])/\w'=w:=by
 exact DQ
theorem Rg(w:World):Calls prog 64 #[.int .i64 9] w fun e w'=>e=.returned (.tuple #[.string ⟨#[100,120,120,45,45]⟩,.bool true])/\w'=w:=by
 exact DQ
theorem MS(w:World):Calls prog 64 #[.int .i64 10] w fun e w'=>e=.returned (.tuple #[.string ⟨#[100,120,120,45,45]⟩,.bool true])/\w'=w:=by
 exact DQ
theorem MT(w:World):Calls prog 64 #[.int .i64 11] w fun e w'=>e=.returned (.tuple #[.string ⟨#[100,120,45,45,45]⟩,.bool true])/\w'=w:=by
 exact DQ
theorem MU(w:World):Calls prog 64 #[.int .i64 12] w fun e w'=>e=.returned (.tuple #[.string ⟨#[100,120,45,45,45]⟩,.bool true])/\w'=w:=by
 exact DQ

section
variable {P : Program} (w : World)
end
section
variable {P : Program} (w : World)
end
section
variable {P : Program} (w : World)
end
theorem Ue(w:World)(b0 b1 b2 b3 b4 b5 b6 b7:UInt8):
 (convert 124 9 (.slice (some ⟨w.heap.size,0,none⟩) 8 8)).run prog
  (w.alloc (.cells #[.int .u8 (b0.toNat:Int),.int .u8 (b1.toNat:Int),.int .u8 (b2.toNat:Int),.int .u8 (b3.toNat:Int),.int .u8 (b4.toNat:Int),.int .u8 (b5.toNat:Int),.int .u8 (b6.toNat:Int),.int .u8 (b7.toNat:Int)] 184))
  =.ok (.string ⟨#[b0,b1,b2,b3,b4,b5,b6,b7]⟩)
  (w.alloc (.cells #[.int .u8 (b0.toNat:Int),.int .u8 (b1.toNat:Int),.int .u8 (b2.toNat:Int),.int .u8 (b3.toNat:Int),.int .u8 (b4.toNat:Int),.int .u8 (b5.toNat:Int),.int .u8 (b6.toNat:Int),.int .u8 (b7.toNat:Int)] 184)):=by
 refine run_convert_bytes_back (P:=prog) _ 124 9 5 ⟨w.heap.size,0,none⟩ 8 [b0,b1,b2,b3,b4,b5,b6,b7] underlying124 underlying5 underlying9 ?_;intro j hj;have h8:j<8:=hj;have ha:(⟨w.heap.size,0,none⟩:Addr).add j=⟨w.heap.size,j,none⟩:=by unfold Addr.add;split<;>simp_all
 rw[ha,World.cell?_alloc_at _ _ _ _ rfl];obtain rfl|rfl|rfl|rfl|rfl|rfl|rfl|rfl:j=0\/j=1\/j=2\/j=3\/j=4\/j=5\/j=6\/j=7:=oM
 all_goals rfl
theorem Jg{k:IntKind}{a b:Int}{p q:Bool}(h:a=b)(g:p=q):Ending.returned (.tuple #[.int k a,.bool p])=.returned (.tuple #[.int k b,.bool q]):=by rw[h,g]
theorem LR{a b:ByteArray}(h:a=b):Ending.returned (.string a)=.returned (.string b):=by rw[h]
theorem Fe(a:Int)(h0:0<=a)(h1:a<4294967296)(w:World):
 Calls prog 110 #[.int .u32 a] w fun e w'=>e=.returned (.string (CE a))/\Below w.heap.size w w':=by
 have e7:=G8 (a/268435456) oM oM;have e6:=G8 (a/16777216) oM oM;have e5:=G8 (a/1048576) oM oM;have e4:=G8 (a/65536) oM oM;have e3:=G8 (a/4096) oM oM;have e2:=G8 (a/256) oM oM;have e1:=G8 (a/16) oM oM;have e0:=G8 a oM oM;have hcv:=Ue;go_enter func110,ntmps110;go_wp2;refine wp_loop_rounds 9 ?_
 iterate 9 (rw[rounds_succ];go_wp2)
 go_ret;refine⟨LR ?_,(Below.refl _ _).alloc (gF _) _⟩;unfold CE;simp only[GM];try rfl
theorem PC(c:Int)(h0:0<=c)(h1:c<=255)(h:BA c=true)(w:World):
 Calls prog 141 #[.int .u8 c] w fun e w'=>e=.returned (.tuple #[.int .u32 (Bo c),.bool true])/\w'=w:=by
 rw[Cr]at h;by_cases hc:c<=57
 .have hd:Bo c=c-48:=by unfold Bo;rw[if_pos hc]
  have e1:IntKind.u8.wrap (c-48)=c-48:=by rw[IntKind.wrap_u8'];omega
  have e2:IntKind.u32.wrap (c-48)=c-48:=by rw[IntKind.wrap_u32'];omega
  have g0:48<=c:=oM;rw[hd];clear hd h;exact Vk
 .have hd:Bo c=c-97+10:=by unfold Bo;rw[if_neg hc];omega
  have e1:IntKind.u8.wrap (c-97)=c-97:=by rw[IntKind.wrap_u8'];omega
  have e2:IntKind.u32.wrap (c-97)=c-97:=by rw[IntKind.wrap_u32'];omega
  have e3:IntKind.u32.wrap (c-97+10)=c-97+10:=by rw[IntKind.wrap_u32'];omega
  have g0:97<=c:=oM;have g1:c<=102:=oM;have g2:57<c:=oM;rw[hd];clear hd h hc;exact Vk
theorem S4(c:Int)(h0:0<=c)(h1:c<=255)(h:BA c=false)(w:World):
 Calls prog 141 #[.int .u8 c] w fun e w'=>e=.returned (.tuple #[.int .u32 0,.bool false])/\w'=w:=by
 rw[Oa]at h;by_cases c1:c<48
 .clear h;exact Vk
 .by_cases c2:c<97
  .have c3:57<c:=oM;clear h;exact Vk
  .have c3:102<c:=oM;clear h;exact Vk
theorem Qt(s:ByteArray)(hs:s.size<=maxLen)(w:World):
 Calls prog 120 #[.string s] w fun e w'=>e=.returned (.tuple #[.int .u32 (Ka s.data.toList),.bool (B8 s.data.toList)])/\w'=w:=by
 unfold maxLen at hs;by_cases h8:s.size=8
 .go_enter func120,ntmps120;go_wp2;go_loop [4,11] (fun av iv=>∃k:Nat,k<=8/\iv=.int .i64 k/\(∀c∈s.data.toList.take k,BA (c.toNat:Int)=true)/\av=.int .u32 (DZ (s.data.toList.take k))) (fun _ iv=>8-(intOf iv).toNat)
  case atStart=>exact⟨0,oM,rfl,sM,rfl⟩
  case round=>
   obtain⟨k,hk,rfl,hall,rfl⟩:=hrel;by_cases hlt:k<8
   .have hks:k<s.size:=oM;have hb:0<=(s[k].toNat:Int)/\(s[k].toNat:Int)<=255:=by have:=s[k].toNat_lt;omega
    have hv:=Jw k (s.data.toList.take k) sO hall;have hv7:(16:Int)^k<=16^7:=by
     exact_mod_cast Nat.pow_le_pow_right oM (show k<=7 by omega)
    have hts:=G0 s k hks;have HT:Hid (s.data.toList.take (k+1)=s.data.toList.take k++[s[k]]):=hts;have HA:Hid (∀c∈s.data.toList.take k,BA (c.toNat:Int)=true):=hall;obtain⟨v,hV⟩:=gA (DZ (s.data.toList.take k))
    rw[hV]at hv |-;have HV:Hid (DZ (s.data.toList.take k)=v):=hV;have hv0:=hv.1;have hv1:v<268435456:=Int.lt_of_lt_of_le hv.2 hv7;clear hts hV hv hv7 hall;cases hx:BA (s[k].toNat:Int)
    .go_wp2_with(go_at_call 141;refine(S4 _ hb.1 hb.2 hx _).mono ?_;rintro e w' ⟨rfl,rfl⟩)
     go_ret2
     have hg:B8 s.data.toList=false:=Ia _ s[k] (In s k hks) hx;exact⟨Jg (GY _ hg).symm hg.symm,rfl⟩
    .have hd:=BK _ hx;have e1:IntKind.u32.wrap (v*16)=v*16:=by rw[IntKind.wrap_u32'];omega
     have e2:=Q8 (v*16) (Bo (s[k].toNat:Int)) oM oM oM hd.1 hd.2;go_wp2_with(go_at_call 141;refine(PC _ hb.1 hb.2 hx _).mono ?_;rintro e w' ⟨rfl,rfl⟩);go_round
     case rel=>
      refine⟨k+1,oM,gN,?_,by rw[HT.out,G3,HV.out]⟩;exact Yh
     case measure=>simp[intOf];omega
   .obtain rfl:k=8:=oM;have hl:s.data.toList.take 8=s.data.toList:=List.take_of_length_le (by simp;exact Nat.le_of_eq h8);rw[hl]at hall |-;have hg:B8 s.data.toList=true:=GL _ (by simpa using h8) hall;clear hall hl;go_wp2
    go_ret2
    exact⟨Jg (Fo _ hg).symm rfl,rfl⟩
 .have hg:B8 s.data.toList=false:=Ib _ (by simpa using h8);rw[GY _ hg,hg];have h8':((s.size:Int)==8)=false:=by simpa using by omega
  clear h8 hg;go_enter func120,ntmps120;go_wp2
  go_ret2
  exact⟨rfl,rfl⟩
theorem Kc(a:Int)(h0:0<=a):(rg a.toNat:Int)=a%2147483648:=by unfold rg;omega
theorem UW{x y:Nat}(h:sv x=sv y):rg x=rg y/\(ng x=ng y\/rg x=0):=by
 have hz:∀z,mv z=0->rg z=0:=by
  intro z hz;unfold mv at hz;rw[<-KU 23]at hz;exact P9 23 hz
 have EW:mv x=mv y/\(ng x=ng y\/mv x=0):=by
  unfold sv sg at h;cases hx:ng x<;>cases hy:ng y<;>rw[hx,hy]at h<;>simp only[if_true,if_false,Bool.false_eq_true]at h
  .exact⟨oM,Or.inl rfl⟩
  .exact⟨oM,Or.inr oM⟩
  .exact⟨oM,Or.inr oM⟩
  .exact⟨oM,Or.inl rfl⟩
 refine⟨P9 23 EW.1,?_⟩;rcases EW.2 with e|e
 .exact Or.inl e
 .exact Or.inr (hz x e)
theorem Gh(a:Int)(h0:0<=a)(h1:a<4294967296):a=(if ng a.toNat then 2147483648 else 0)+(rg a.toNat:Int):=by
 unfold ng rg;by_cases c:2147483648<=a
 .have:a.toNat/2147483648%2=1:=oM;simp[this];omega
 .have:a.toNat/2147483648%2=0:=oM;simp[this];omega
theorem SF{a b:Int}(h0:0<=a)(h1:a<4294967296)(g0:0<=b)(g1:b<4294967296)(hr:rg a.toNat=rg b.toNat)(hs:ng a.toNat=ng b.toNat):a=b:=by
 rw[Gh a h0 h1,Gh b g0 g1,hr,hs]
def Rh:Wk->List Ax->Wk
 |s,[]=>s
 |s,i::r=>Rh (AM s i) r
def F6(c:Cd):Wk->List Ax->Bool
 |_,[]=>true
 |s,i::r=>Bd c s i&&F6 c (AM s i) r
theorem Px{c:Cd}:∀ {l:List Ax} {s:Wk} {k:Nat},(Hq c s k l).1=0↔F6 c s l=true/\(Rh s l).opens.isEmpty=true
 |[],s,k=>by
  simp only[Hq,F6,Rh,true_and];by_cases h:s.opens.isEmpty=true
  .simp[h]
  .simp[h]
 |i::l,s,k=>by
  simp only[Hq,F6,Rh,Bool.and_eq_true];by_cases h:Bd c s i=true
  .rw[if_pos h,Px (k:=k+1)];simp[h]
  .rw[if_neg h];simp[h]
theorem NO{c:Cd}:(AH c).1=0↔C7 c=0/\F6 c ⟨[],[]⟩ c.list=true/\(Rh ⟨[],[]⟩ c.list).opens.isEmpty=true:=by
 unfold AH;by_cases h:C7 c=0
 .rw[if_neg U7,Px];simp[h]
 .rw[if_pos h];simp[h]
theorem EV{n:Int}{k:Nat}:Am n k=true↔0<=n/\n<(k:Int):=by unfold Am;simp
theorem Rn{ps:List Bc}(h:AC ps=0):∀p∈ps,AK p=true:=by
 unfold AC at h;split at h
 .exact absurd h dE
 .split at h
  .exact absurd h dE
  .rename_i h2;intro p hp;have h3:ps.all AK=true:=by simpa using h2
   exact List.all_eq_true.1 h3 p hp
theorem Uk{rs:List Ty}{l n:Int}{m:Ty}(h:Ae rs l n m=true)(hl:l≠0):Am n rs.length=true:=by
 unfold Ae at h;rw[if_neg hl]at h;simp only[Bool.and_eq_true]at h;exact h.1
structure Tk(c:Cd)(s:Wk)(i:Ax):Prop where
 known:1<=i.op/\i.op<=37
 d:Ae c.regs (A5 i.op).d i.d (AF c.regs i (A5 i.op))=true
 a:Ae c.regs (A5 i.op).a i.a (AF c.regs i (A5 i.op))=true
 b:Ae c.regs (A5 i.op).b i.b (AF c.regs i (A5 i.op))=true
 e:Ae c.regs (A5 i.op).c i.c (AF c.regs i (A5 i.op))=true
 n:BO c i (A5 i.op).n (AF c.regs i (A5 i.op))=true
 stand:AO c s i (A5 i.op)=true
 read:FU s i (A5 i.op)=true
theorem UX{c:Cd}{s:Wk}{i:Ax}:Bd c s i=true↔Tk c s i:=by
 unfold Bd Bm AI;simp only[Bool.and_eq_true,decide_eq_true_eq];exact⟨fun⟨k,⟨d,a,b,e,n⟩,st,r⟩=>⟨k,d,a,b,e,n,st,r⟩,fun h=>⟨h.known,⟨h.d,h.a,h.b,h.e,h.n⟩,h.stand,h.read⟩⟩
section
open Go.Lib (decDigits)
theorem SM:∀k:Fin 256,EJ (k.val:Int)=true->(k.val:Int)≠32/\(k.val:Int)≠10/\(k.val:Int)≠35:=by
 intro k h;unfold EJ at h;simp at h;omega
theorem Qk{b:UInt8}(h:EJ (nb b)=true):nb b≠32/\nb b≠10/\nb b≠35:=SM ⟨b.toNat,b.toNat_lt⟩ h
theorem FT{p:Bc}(h:AK p=true):(p.name.size≠0/\∀b∈bs p.name,EJ (nb b)=true)/\(p.kind=1\/p.kind=2)/\1<=p.len/\p.len<=4096:=by
 unfold AK B1 at h;simp only[Bool.and_eq_true,Bool.or_eq_true,bne_iff_ne,beq_iff_eq,decide_eq_true_eq,List.all_eq_true]at h;exact⟨⟨h.1.1.1.1,fun b hb=>h.1.1.2 b hb⟩,h.1.2,h.2.1,h.2.2⟩
def BC(a:Int):Bs:=(CE a).data.toList
def BI(s:Bs):Option Int:=if B8 s then some (Ka s)else none
theorem Gx{s:Bs}{a:Int}:BI s=some a↔(0<=a/\a<4294967296)/\s=BC a:=by
 unfold BI BC;constructor
 .intro h;split at h
  .rename_i hg;cases h
   have h1:=PA ⟨s.toArray⟩ (by simpa using hg);refine⟨Je s,?_⟩;have h2:=congrArg (fun x:ByteArray=>x.data.toList) h1;simpa using h2.symm
  .cases h
 .rintro⟨⟨h0,h1⟩,rfl⟩;rw[if_pos (FJ a),Qs a h0 h1]
theorem JO(a:Int):Br (BC a):=fun b hb=>by
 have h:=(FI _ (FJ a)).2 b hb;rw[Cr]at h;unfold nb;omega
def AN:Bs:=[112,97,114,97,109]
def BU:Bs:=[114,101,103]
def B7:Bs:=[115,108,111,116]
def Bp:Bs:=[110,117,109,98,101,114]
def BV:Bs:=[119,104,111,108,101]
def AW:Bs:=[118,101,99,116,111,114]
def At:Bs:=[107,101,101,112]
def Av:Bs:=[108,111,99,97,108]
def B5:Bs:=[108,97,116,104,101,32,49]
def C1(k:Int):Bs:=if k=2 then AE else Cb
def Bh(p:Bc):List Bs:=[AN,bs p.name,C1 p.kind,Ao p.len]
def B0(n k:Bs)(m:Int):Bc:=⟨⟨n.toArray⟩,if k=AE then 2 else 1,m⟩
def AV:List Bs->Option Bc
 |[a,n,k,l]=>if a=AN/\(k=Cb\/k=AE)then(Af l).bind fun m=>if AK (B0 n k m)=true then some (B0 n k m)else none else none
 |_=>none
theorem UE{n k:Bs}{m:Int}(hk:k=Cb\/k=AE):Bh (B0 n k m)=[AN,n,k,Ao m]:=by
 unfold Bh C1 B0;simp only[AZ];rcases hk with rfl|rfl
 .rw[if_neg (show¬Cb=AE by decide),if_neg dE]
 .rw[if_pos rfl,if_pos rfl]
theorem Fl{w:List Bs}{p:Bc}(h:AV w=some p):AK p=true/\w=Bh p:=by
 unfold AV at h;split at h
 .rename_i a n k l;by_cases hk:a=AN/\(k=Cb\/k=AE)
  .rw[if_pos hk,Option.bind_eq_some_iff]at h;obtain⟨m,hm,h⟩:=h;by_cases hp:AK (B0 n k m)=true
   .rw[if_pos hp]at h;cases h
    refine⟨hp,?_⟩;rw[UE hk.2,hk.1,(CL hm).2]
   .rw[if_neg hp]at h;cases h
  .rw[if_neg hk]at h;cases h
 .cases h
theorem UC{p:Bc}(h:AK p=true):AV (Bh p)=some p:=by
 obtain⟨_,hk,h1,h2⟩:=FT h;have e:B0 (bs p.name) (C1 p.kind) p.len=p:=by
  unfold B0 C1;rw[MM];obtain⟨nm,kd,ln⟩:=p;simp only at hk |-;rcases hk with rfl|rfl
  .rw[if_neg (show¬ (1:Int)=2 by decide),if_neg (show¬Cb=AE by decide)]
  .rw[if_pos rfl,if_pos rfl]
 have hkk:C1 p.kind=Cb\/C1 p.kind=AE:=by
  unfold C1;rcases hk with q|q<;>rw[q]
  .exact .inl rfl
  .exact .inr rfl
 show(if AN=AN/\(C1 p.kind=Cb\/C1 p.kind=AE)then(Af (Ao p.len)).bind fun m=>if AK (B0 (bs p.name) (C1 p.kind) m)=true then some (B0 (bs p.name) (C1 p.kind) m)else none else none)=some p;rw[if_pos ⟨rfl,hkk⟩,FO oM oM,Option.bind_some,e,if_pos h]
def EE(t:Ty):Prop:=(t.kind=1/\t.par=0)\/(t.kind=2/\t.par=0)\/(t.kind=3/\0<=t.par/\t.par<=2147483647)
def AT(t:Ty):List Bs:=if t.kind=1 then [Bp]else if t.kind=2 then [BV]else [AW,Ao t.par]
def Nw:List Bs->Option (Ty×List Bs)
 |[]=>none
 |m::q=>(Af m).bind fun n=>some (⟨3,n⟩,q)
def AY:List Bs->Option (Ty×List Bs)
 |[]=>none
 |a::r=>if a=Bp then some (⟨1,0⟩,r)else if a=BV then some (⟨2,0⟩,r)else if a=AW then Nw r else none
theorem Nv{w r:List Bs}{t:Ty}(h:AY w=some (t,r)):EE t/\w=AT t++r:=by
 cases w with
 |nil=>cases h
 |cons a q=>
  have h:(if a=Bp then some ((⟨1,0⟩:Ty),q)else if a=BV then some (⟨2,0⟩,q)else if a=AW then Nw q else none)=some (t,r):=h;by_cases h1:a=Bp
  .rw[if_pos h1]at h;cases h;subst h1;exact⟨.inl ⟨rfl,rfl⟩,rfl⟩
  .rw[if_neg h1]at h;by_cases h2:a=BV
   .rw[if_pos h2]at h;cases h;subst h2;exact⟨.inr (.inl ⟨rfl,rfl⟩),rfl⟩
   .rw[if_neg h2]at h;by_cases h3:a=AW
    .rw[if_pos h3]at h;subst h3;cases q with
     |nil=>cases h
     |cons m q'=>
      have h:((Af m).bind fun n=>some ((⟨3,n⟩:Ty),q'))=some (t,r):=h;rw[Option.bind_eq_some_iff]at h;obtain⟨n,hn,h⟩:=h;cases h
      obtain⟨hb,rfl⟩:=CL hn;exact⟨.inr (.inr ⟨rfl,hb⟩),rfl⟩
    .rw[if_neg h3]at h;cases h
theorem RC{t:Ty}(h:EE t)(r:List Bs):AY (AT t++r)=some (t,r):=by
 obtain⟨k,p⟩:=t;unfold EE at h;simp only at h;rcases h with⟨rfl,rfl⟩|⟨rfl,rfl⟩|⟨rfl,h0,h1⟩
 .rfl
 .rfl
 .show(if AW=Bp then some ((⟨1,0⟩:Ty),Ao p::r)else if AW=BV then some (⟨2,0⟩,Ao p::r)else if AW=AW then Nw (Ao p::r)else none)=_;rw[if_neg dE,if_neg dE,if_pos rfl];show((Af (Ao p)).bind fun n=>some ((⟨3,n⟩:Ty),r))=_;rw[FO h0 h1,Option.bind_some]
def CI(n:Int)(t:Ty):List Bs:=BU::Ao n::AT t
def E6{α:Type}:α×List Bs->Option α
 |(t,[])=>some t
 |_=>none
def Bi(n:Int):List Bs->Option Ty
 |a::m::r=>if a=BU/\Af m=some n then(AY r).bind E6 else none
 |_=>none
theorem U9{α:Type}{x:α×List Bs}{t:α}(h:E6 x=some t):x=(t,[]):=by
 obtain⟨y,l⟩:=x;cases l with
 |nil=>cases h;rfl
 |cons b q=>cases h
theorem Jf{n:Int}{w:List Bs}{t:Ty}(h:Bi n w=some t):EE t/\w=CI n t:=by
 match w,h with
 |a::m::r,h=>
  have h:(if a=BU/\Af m=some n then(AY r).bind E6 else none)=some t:=h;by_cases ha:a=BU/\Af m=some n
  .rw[if_pos ha,Option.bind_eq_some_iff]at h;obtain⟨x,hx,h⟩:=h;rw[U9 h]at hx;obtain⟨h1,e⟩:=Nv hx;refine⟨h1,?_⟩;rw[ha.1,(CL ha.2).2,e,List.append_nil];rfl
  .rw[if_neg ha]at h;cases h
theorem UO{n:Int}{t:Ty}(h0:0<=n)(h1:n<=2147483647)(h:EE t):Bi n (CI n t)=some t:=by
 show(if BU=BU/\Af (Ao n)=some n then(AY (AT t)).bind E6 else none)=some t;have ht:=RC h [];rw[List.append_nil]at ht;rw[if_pos ⟨rfl,FO h0 h1⟩,ht];rfl
def Hv(s:Sl):Prop:=EE s.ty/\(if s.ty.kind=2 then s.bits=0/\0<=s.int_/\s.int_<=2147483647 else s.int_=0/\0<=s.bits/\s.bits<4294967296)
def Bv(n:Int)(s:Sl):List Bs:=B7::Ao n::(if s.keep then At else Av)::(AT s.ty++[if s.ty.kind=2 then Ao s.int_ else BC s.bits])
def EL(k:Bs):Ty×List Bs->Option Sl
 |(t,[x])=>if t.kind=2 then(Af x).bind fun i=>some ⟨t,decide (k=At),0,i⟩else(BI x).bind fun b=>some ⟨t,decide (k=At),b,0⟩
 |_=>none
def AQ(n:Int):List Bs->Option Sl
 |a::m::k::r=>if a=B7/\Af m=some n/\(k=At\/k=Av)then(AY r).bind (EL k)else none
 |_=>none
theorem Fu{n:Int}{w:List Bs}{s:Sl}(h:AQ n w=some s):Hv s/\w=Bv n s:=by
 match w,h with
 |a::m::k::r,h=>
  have h:(if a=B7/\Af m=some n/\(k=At\/k=Av)then(AY r).bind (EL k)else none)=some s:=h;by_cases ha:a=B7/\Af m=some n/\(k=At\/k=Av)
  .rw[if_pos ha,Option.bind_eq_some_iff]at h;obtain⟨⟨t,l⟩,hx,h⟩:=h;obtain⟨ht,e⟩:=Nv hx;have hkk:(if decide (k=At)=true then At else Av)=k:=by
    rcases ha.2.2 with rfl|rfl
    .rfl
    .rfl
   match l,h,e with
   |[x],h,e=>
    have h:(if t.kind=2 then(Af x).bind fun i=>some ⟨t,decide (k=At),0,i⟩else(BI x).bind fun b=>some ⟨t,decide (k=At),b,0⟩)=some s:=h;by_cases h2:t.kind=2
    .rw[if_pos h2,Option.bind_eq_some_iff]at h;obtain⟨i,hi,h⟩:=h;cases h
     obtain⟨hb,ex⟩:=CL hi;refine⟨⟨ht,by rw[if_pos h2];exact⟨rfl,hb⟩⟩,?_⟩;unfold Bv;simp only;rw[hkk,if_pos h2,ha.1,(CL ha.2.1).2,e,ex]
    .rw[if_neg h2,Option.bind_eq_some_iff]at h;obtain⟨b,hb,h⟩:=h;cases h
     obtain⟨hb,ex⟩:=Gx.1 hb;refine⟨⟨ht,by rw[if_neg h2];exact⟨rfl,hb⟩⟩,?_⟩;unfold Bv;simp only;rw[hkk,if_neg h2,ha.1,(CL ha.2.1).2,e,ex]
  .rw[if_neg ha]at h;cases h
theorem Tn{n:Int}{s:Sl}(h0:0<=n)(h1:n<=2147483647)(h:Hv s):AQ n (Bv n s)=some s:=by
 obtain⟨t,k,b,i⟩:=s;obtain⟨ht,hv⟩:=h;simp only at ht hv;have hk:((if k=true then At else Av)=At\/(if k=true then At else Av)=Av):=by cases k<;>simp
 have hd:decide ((if k=true then At else Av)=At)=k:=by cases k<;>rfl
 show(if B7=B7/\Af (Ao n)=some n/\((if k=true then At else Av)=At\/(if k=true then At else Av)=Av)then(AY (AT t++[if t.kind=2 then Ao i else BC b])).bind (EL (if k=true then At else Av))else none)=_;rw[if_pos ⟨rfl,FO h0 h1,hk⟩,RC ht,Option.bind_some];show(if t.kind=2 then(Af (if t.kind=2 then Ao i else BC b)).bind fun i=>some (⟨t,decide ((if k=true then At else Av)=At),0,i⟩:Sl)else(BI (if t.kind=2 then Ao i else BC b)).bind fun b=>some ⟨t,decide ((if k=true then At else Av)=At),b,0⟩)=_;rw[hd];by_cases h2:t.kind=2
 .rw[if_pos h2]at hv;rw[if_pos h2,if_pos h2,FO hv.2.1 hv.2.2,Option.bind_some,hv.1]
 .rw[if_neg h2]at hv;rw[if_neg h2,if_neg h2,Gx.2 ⟨hv.2,rfl⟩,Option.bind_some,hv.1]
def Dy:List Bs:=[[],[110,117,109,98,101,114],[119,104,111,108,101],[99,111,112,121],[97,100,100],[115,117,98],[109,117,108],[100,105,118],[109,105,110],[109,97,120],[108,101,115,115],[115,113,114,116],[110,101,103],[97,98,115],[102,105,110,105,116,101],[115,101,108,101,99,116],[112,111,119,101,114],[102,114,111,109],[116,101,115,116],[115,117,109],[108,101,97,115,116],[105,110,99],[98,101,108,111,119],[115,97,109,101],[97,110,100],[110,111,116],[99,104,111,111,115,101],[109,105,110,117,115],[111,118,101,114],[103,114,97,100],[112,97,114,97,109],[111,117,116],[108,111,97,100],[115,116,111,114,101],[119,104,101,110],[101,110,100],[108,111,111,112],[110,101,120,116]]
def DS(op:Int):Bs:=(Dy[op.toNat]?).getD []
def KJ(s:Bs):Option Nat:=(List.range 37).find? fun k=>DS ((k:Int)+1)==s
theorem Lx:∀k:Nat,k<37->KJ (DS ((k:Int)+1))=some k:=by decide+kernel
theorem Sy:∀k:Nat,k<37->(DS ((k:Int)+1)).all (fun b=>nb b != 32&&nb b != 10)=true:=by decide+kernel
theorem FQ{s:Bs}{k:Nat}(h:KJ s=some k):k<37/\s=DS ((k:Int)+1):=by
 unfold KJ at h;have h1:=List.find?_some h;have h2:=List.mem_of_find?_eq_some h;exact⟨List.mem_range.1 h2,by simpa using(beq_iff_eq.1 h1).symm⟩
def LS(n:Int):Bs:=114::Ao n
def FB:Bs->Option Int
 |[]=>none
 |b::r=>if b=114 then Af r else none
theorem LU{s:Bs}{n:Int}:FB s=some n↔(0<=n/\n<=2147483647)/\s=LS n:=by
 unfold FB LS;constructor
 .intro h;cases s with
  |nil=>cases h
  |cons b r=>
   have h:(if b=114 then Af r else none)=some n:=h;by_cases hb:b=114
   .rw[if_pos hb]at h;obtain⟨h1,e⟩:=Cv.1 h;exact⟨h1,by rw[hb,e]⟩
   .rw[if_neg hb]at h;cases h
 .rintro⟨h1,rfl⟩;show(if(114:UInt8)=114 then Af (Ao n)else none)=some n;rw[if_pos rfl];exact Cv.2 ⟨h1,rfl⟩
def CU(l n:Int):List Bs:=if l=0 then [] else [LS n]
def MN(l n:Int):Prop:=if l=0 then n=0 else 0<=n/\n<=2147483647
def VD:List Bs->Option (Int×List Bs)
 |[]=>none
 |a::r=>(FB a).bind fun n=>some (n,r)
def Cn(l:Int)(w:List Bs):Option (Int×List Bs):=if l=0 then some (0,w)else VD w
theorem Gw{l n:Int}{w r:List Bs}(h:Cn l w=some (n,r)):MN l n/\w=CU l n++r:=by
 unfold Cn at h;unfold MN CU;by_cases h0:l=0
 .rw[if_pos h0]at h;rw[if_pos h0,if_pos h0];cases h
  exact⟨rfl,rfl⟩
 .rw[if_neg h0]at h;rw[if_neg h0,if_neg h0];cases w with
  |nil=>cases h
  |cons a q=>
   have h:((FB a).bind fun n=>some (n,q))=some (n,r):=h;rw[Option.bind_eq_some_iff]at h;obtain⟨m,hm,h⟩:=h;cases h
   obtain⟨h1,e⟩:=LU.1 hm;exact⟨h1,by rw[e];rfl⟩
theorem IU{l n:Int}(h:MN l n)(r:List Bs):Cn l (CU l n++r)=some (n,r):=by
 unfold MN at h;unfold Cn CU;by_cases h0:l=0
 .rw[if_pos h0]at h;rw[if_pos h0,if_pos h0,h];rfl
 .rw[if_neg h0]at h;rw[if_neg h0,if_neg h0];show((FB (LS n)).bind fun n=>some (n,r))=_;rw[LU.2 ⟨h,rfl⟩,Option.bind_some]
def DR(l n b:Int):List Bs:=if l=7 then [BC b]else if l=0 then [] else [Ao n]
def Ol(l n b:Int):Prop:=if l=7 then n=0/\0<=b/\b<4294967296 else if l=0 then n=0/\b=0 else b=0/\0<=n/\n<=2147483647
def MO:List Bs->Option Bs
 |[x]=>some x
 |_=>none
def PX:List Bs->Option (Int×Int)
 |[]=>some (0,0)
 |_=>none
def BZ(l:Int)(w:List Bs):Option (Int×Int):=
 if l=7 then(MO w).bind fun x=>(BI x).bind fun b=>some (0,b)
 else if l=0 then PX w
 else(MO w).bind fun x=>(Af x).bind fun n=>some (n,0)
theorem Q3{w:List Bs}{x:Bs}(h:MO w=some x):w=[x]:=by
 match w,h with
 |[y],h=>cases h;rfl
theorem Sq{w:List Bs}{x:Int×Int}(h:PX w=some x):w=[]/\x=(0,0):=by
 match w,h with
 |[],h=>cases h;exact⟨rfl,rfl⟩
theorem S2{l n b:Int}{w:List Bs}(h:BZ l w=some (n,b)):Ol l n b/\w=DR l n b:=by
 unfold BZ at h;unfold Ol DR;by_cases h7:l=7
 .rw[if_pos h7]at h;rw[if_pos h7,if_pos h7];simp only[Option.bind_eq_some_iff]at h;obtain⟨x,hx,b',hb,h⟩:=h;cases h
  obtain⟨h1,e⟩:=Gx.1 hb;exact⟨⟨rfl,h1⟩,by rw[Q3 hx,e]⟩
 .rw[if_neg h7]at h;rw[if_neg h7,if_neg h7];by_cases h0:l=0
  .rw[if_pos h0]at h;rw[if_pos h0,if_pos h0];obtain⟨h1,h2⟩:=Sq h;cases h2
   exact⟨⟨rfl,rfl⟩,h1⟩
  .rw[if_neg h0]at h;rw[if_neg h0,if_neg h0];simp only[Option.bind_eq_some_iff]at h;obtain⟨x,hx,m,hm,h⟩:=h;cases h
   obtain⟨h1,e⟩:=Cv.1 hm;exact⟨⟨rfl,h1⟩,by rw[Q3 hx,e]⟩
theorem Uj{l n b:Int}(h:Ol l n b):BZ l (DR l n b)=some (n,b):=by
 unfold Ol at h;unfold BZ DR;by_cases h7:l=7
 .rw[if_pos h7]at h;rw[if_pos h7,if_pos h7];show((BI (BC b)).bind fun b=>some ((0:Int),b))=_;rw[Gx.2 ⟨h.2,rfl⟩,Option.bind_some,h.1]
 .rw[if_neg h7]at h;rw[if_neg h7,if_neg h7];by_cases h0:l=0
  .rw[if_pos h0]at h;rw[if_pos h0,if_pos h0,h.1,h.2];rfl
  .rw[if_neg h0]at h;rw[if_neg h0,if_neg h0];show((Af (Ao n)).bind fun n=>some (n,(0:Int)))=_;rw[Cv.2 ⟨h.2,rfl⟩,Option.bind_some,h.1]
def AJ(i:Ax):List Bs:=DS i.op::(CU (A5 i.op).d i.d++(CU (A5 i.op).a i.a++(CU (A5 i.op).b i.b++(CU (A5 i.op).c i.c++DR (A5 i.op).n i.n i.bits))))
def ED(i:Ax):Prop:=(1<=i.op/\i.op<=37)/\MN (A5 i.op).d i.d/\MN (A5 i.op).a i.a/\MN (A5 i.op).b i.b/\MN (A5 i.op).c i.c/\Ol (A5 i.op).n i.n i.bits
def B3:List Bs->Option Ax
 |[]=>none
 |s::r0=>(KJ s).bind fun k=>(Cn (A5 ((k:Int)+1)).d r0).bind fun d=>(Cn (A5 ((k:Int)+1)).a d.2).bind fun a=>(Cn (A5 ((k:Int)+1)).b a.2).bind fun b=>(Cn (A5 ((k:Int)+1)).c b.2).bind fun c=>(BZ (A5 ((k:Int)+1)).n c.2).bind fun e=>some ⟨(k:Int)+1,d.1,a.1,b.1,c.1,e.1,e.2⟩
theorem ME{w:List Bs}{i:Ax}(h:B3 w=some i):ED i/\w=AJ i:=by
 unfold B3 at h;split at h
 .cases h
 .rename_i s r0;simp only[Option.bind_eq_some_iff]at h;obtain⟨k,hk,⟨d,r1⟩,hd,⟨a,r2⟩,ha,⟨b,r3⟩,hb,⟨c,r4⟩,hc,⟨n,bt⟩,he,hi⟩:=h;cases hi
  obtain⟨k1,rfl⟩:=FQ hk;obtain⟨d1,rfl⟩:=Gw hd;obtain⟨a1,e1⟩:=Gw ha;obtain⟨b1,e2⟩:=Gw hb;obtain⟨c1,e3⟩:=Gw hc;obtain⟨n1,e4⟩:=S2 he;simp only at e1 e2 e3 e4;refine⟨⟨⟨by simp only;omega,by simp only;omega⟩,d1,a1,b1,c1,n1⟩,?_⟩;unfold AJ;simp only;rw[e1,e2,e3,e4]
theorem Un{i:Ax}(h:ED i):B3 (AJ i)=some i:=by
 obtain⟨op,d,a,b,c,n,bt⟩:=i;obtain⟨⟨h1,h2⟩,hd,ha,hb,hc,he⟩:=h;simp only at h1 h2 hd ha hb hc he;obtain⟨k,rfl⟩:∃k:Nat,op=(k:Int)+1:=⟨(op-1).toNat,oM⟩
 unfold B3 AJ;simp only;rw[Lx k oM];simp only[Option.bind_some];rw[IU hd];simp only[Option.bind_some];rw[IU ha];simp only[Option.bind_some];rw[IU hb];simp only[Option.bind_some];rw[IU hc];simp only[Option.bind_some];rw[Uj he];rfl
end
structure Ah(c:Cd):Prop where
 sign:AC c.sign=0
 regs:c.regs.length<=16384
 list:c.list.length<=32768
 slots:c.slots.length<=4096
 types:Ap c=true
 begun:Bj c=true
theorem U8{c:Cd}:C7 c=0↔Ah c:=by
 unfold C7;by_cases h0:AC c.sign=0
 .rw[if_neg (by simp[h0])];by_cases h1:16384<c.regs.length\/32768<c.list.length
  .rw[if_pos h1];exact⟨fun h=>absurd h dE,fun h=>by have:=h.regs;have:=h.list;omega⟩
  .rw[if_neg h1];by_cases h2:4096<c.slots.length
   .rw[if_pos h2];exact⟨fun h=>absurd h dE,fun h=>by have:=h.slots;omega⟩
   .rw[if_neg h2];by_cases h3:(Ap c&&Bj c)=true
    .rw[if_pos h3];simp only[Bool.and_eq_true]at h3;exact⟨fun _=>⟨h0,oM,oM,oM,h3.1,h3.2⟩,fun _=>rfl⟩
    .rw[if_neg h3];exact⟨fun h=>absurd h dE,fun h=>absurd (by rw[h.types,h.begun];rfl) h3⟩
 .rw[if_pos h0];exact⟨fun h=>absurd h h0,fun h=>absurd h.sign h0⟩

def Bu:Nat->List Ty->List (List Bs)
 |_,[]=>[]
 |n,t::r=>CI (n:Int) t::Bu (n+1) r
def B2:Nat->List Sl->List (List Bs)
 |_,[]=>[]
 |n,s::r=>Bv (n:Int) s::B2 (n+1) r
theorem H9:∀ (l:List Ty) (n:Nat) (t:Ty),Bu n (l++[t])=Bu n l++[CI ((n+l.length:Nat):Int) t]
 |[],n,t=>by simp[Bu]
 |a::l,n,t=>by
  simp only[List.cons_append,Bu,H9 l (n+1) t,List.length_cons];rw[show n+1+l.length=n+(l.length+1) by omega]
theorem Gf:∀ (l:List Sl) (n:Nat) (t:Sl),B2 n (l++[t])=B2 n l++[Bv ((n+l.length:Nat):Int) t]
 |[],n,t=>by simp[B2]
 |a::l,n,t=>by
  simp only[List.cons_append,B2,Gf l (n+1) t,List.length_cons];rw[show n+1+l.length=n+(l.length+1) by omega]
def Fb(c:Cd):List (List Bs):=c.sign.map Bh++(Bu 0 c.regs++(B2 0 c.slots++c.list.map AJ))
def Dp(c:Cd):List Bs:=B5::(Fb c).map A7
def D5(c:Cd):Bs:=(Dp c).flatMap fun x=>x++[10]
def SA{α β:Type}(x:Option α)(f:α->β)(y:Option β):Option β:=match x with |some a=>some (f a)|none=>y
def AD(s:Nat×Cd)(w:List Bs):Option (Nat×Cd):=
 SA (if s.1=0 then AV w else none) (fun p=>(0,⟨s.2.sign++[p],s.2.regs,s.2.slots,s.2.list⟩))
 (SA (if s.1<=1 then Bi (s.2.regs.length:Int) w else none) (fun t=>(1,⟨s.2.sign,s.2.regs++[t],s.2.slots,s.2.list⟩))
 (SA (if s.1<=2 then AQ (s.2.slots.length:Int) w else none) (fun l=>(2,⟨s.2.sign,s.2.regs,s.2.slots++[l],s.2.list⟩))
 (SA (B3 w) (fun i=>(3,⟨s.2.sign,s.2.regs,s.2.slots,s.2.list++[i]⟩)) none)))
def FA:Nat×Cd->Nat->List Bs->Except Nat (Nat×Cd)
 |s,_,[]=>.ok s
 |s,n,l::r=>match AD s (Aj [] l)with |some s'=>FA s' (n+1) r|none=>.error n
def BD:Cd:=⟨[],[],[],[]⟩
def CV(L:Int)(c:Cd)(p:Int):Int:=if Am p c.list.length=true then L-(c.list.length:Int)+p+1 else 0
def NY(ls:List Bs)(rest:Bs):Except Nat (Nat×Cd)->Cd×Int×Int
 | .error n=>(BD,250,(n:Int))
 | .ok s=>if rest≠[] then(BD,250,(ls.length:Int)+2)else if(AH s.2).1≠0 then(BD,160,CV ((ls.length:Int)+1) s.2 (AH s.2).2)else(s.2,0,0)
def E5(rest:Bs):List Bs->Cd×Int×Int
 |[]=>(BD,250,1)
 |h::ls=>if h≠B5 then(BD,250,1)else NY ls rest (FA (0,BD) 2 ls)
def BT(t:Bs):Cd×Int×Int:=if 4194304<t.length then(BD,2,0)else E5 (Bw [] t).2 (Bw [] t).1
theorem Br.of{s:Bs}(h:s.all (fun b=>nb b != 32&&nb b != 10)=true):Br s:=fun b hb=>by
 have:=List.all_eq_true.1 h b hb;simpa using this
theorem Iw{p:Bc}(h:AK p=true):∀w∈Bh p,Br w:=by
 obtain⟨⟨_,hn⟩,hk,_,_⟩:=FT h;intro w hw;simp only[Bh,List.mem_cons,List.not_mem_nil,or_false]at hw;rcases hw with rfl|rfl|rfl|rfl
 .exact Br.of dE
 .exact fun b hb=>⟨(Qk (hn b hb)).1,(Qk (hn b hb)).2.1⟩
 .unfold C1;split
  .exact Br.of dE
  .exact Br.of dE
 .exact CY _
theorem IH(t:Ty):∀w∈AT t,Br w:=by
 intro w hw;unfold AT at hw;split at hw
 .rw[List.mem_singleton.1 hw];exact Br.of dE
 .split at hw
  .rw[List.mem_singleton.1 hw];exact Br.of dE
  .simp only[List.mem_cons,List.not_mem_nil,or_false]at hw;rcases hw with rfl|rfl
   .exact Br.of dE
   .exact CY _
theorem Iy(n:Int)(t:Ty):∀w∈CI n t,Br w:=by
 intro w hw;rcases List.mem_cons.1 hw with rfl|hw
 .exact Br.of dE
 rcases List.mem_cons.1 hw with rfl|hw
 .exact CY _
 .exact IH t w hw
theorem Hf(n:Int)(s:Sl):∀w∈Bv n s,Br w:=by
 intro w hw;rcases List.mem_cons.1 hw with rfl|hw
 .exact Br.of dE
 rcases List.mem_cons.1 hw with rfl|hw
 .exact CY _
 rcases List.mem_cons.1 hw with rfl|hw
 .split
  .exact Br.of dE
  .exact Br.of dE
 rcases List.mem_append.1 hw with hw|hw
 .exact IH _ w hw
 .rw[List.mem_singleton.1 hw];split
  .exact CY _
  .exact JO _
theorem T6(n:Int):Br (LS n):=fun b hb=>by
 rcases List.mem_cons.1 hb with rfl|hb
 .exact⟨dE,dE⟩
 .exact CY n b hb
theorem Ep(l n:Int):∀w∈CU l n,Br w:=by
 intro w hw;unfold CU at hw;split at hw
 .cases hw
 .rw[List.mem_singleton.1 hw];exact T6 n
theorem NZ(l n b:Int):∀w∈DR l n b,Br w:=by
 intro w hw;unfold DR at hw;split at hw
 .rw[List.mem_singleton.1 hw];exact JO b
 .split at hw
  .cases hw
  .rw[List.mem_singleton.1 hw];exact CY n
theorem Ii{i:Ax}(h:ED i):∀w∈AJ i,Br w:=by
 obtain⟨⟨h1,h2⟩,_⟩:=h;intro w hw;rcases List.mem_cons.1 hw with rfl|hw
 .obtain⟨k,hk⟩:∃k:Nat,i.op=(k:Int)+1:=⟨(i.op-1).toNat,oM⟩
  rw[hk];exact Br.of (Sy k oM)
 rcases List.mem_append.1 hw with hw|hw
 .exact Ep _ _ w hw
 rcases List.mem_append.1 hw with hw|hw
 .exact Ep _ _ w hw
 rcases List.mem_append.1 hw with hw|hw
 .exact Ep _ _ w hw
 rcases List.mem_append.1 hw with hw|hw
 .exact Ep _ _ w hw
 .exact NZ _ _ _ w hw
theorem J6:∀k:Nat,k<37->DS ((k:Int)+1)≠BU/\DS ((k:Int)+1)≠B7/\(DS ((k:Int)+1)=AN->k=29):=by decide+kernel
theorem Bf{α:Type}{x:Option α}(h:∀a,x≠some a):x=none:=by
 cases x with
 |none=>rfl
 |some a=>exact absurd rfl (h a)
theorem SZ(n:Int)(t:Ty):AV (CI n t)=none:=Bf fun p h=>by
 have e:=(Fl h).2;unfold CI Bh at e;exact absurd (List.cons.inj e).1 dE
theorem Rt(n:Int)(s:Sl):AV (Bv n s)=none:=Bf fun p h=>by
 have e:=(Fl h).2;unfold Bv Bh at e;exact absurd (List.cons.inj e).1 dE
theorem Ru(n m:Int)(s:Sl):Bi m (Bv n s)=none:=Bf fun p h=>by
 have e:=(Jf h).2;unfold Bv CI at e;exact absurd (List.cons.inj e).1 dE
theorem S7{i:Ax}(hi:ED i):AV (AJ i)=none:=Bf fun p h=>by
 have e:=(Fl h).2;obtain⟨⟨h1,h2⟩,_⟩:=hi;obtain⟨k,hk⟩:∃k:Nat,i.op=(k:Int)+1:=⟨(i.op-1).toNat,oM⟩
 unfold AJ Bh at e;obtain⟨e1,e2⟩:=List.cons.inj e;rw[hk]at e1 e2;have h3:=(J6 k oM).2.2 e1;subst h3;have hr:A5 (((29:Nat):Int)+1)=⟨3,0,0,0,9⟩:=dE;have h4:=congrArg List.length e2;rw[hr]at h4;simp[CU,DR]at h4
theorem S8{i:Ax}(n:Int)(hi:ED i):Bi n (AJ i)=none:=Bf fun p h=>by
 have e:=(Jf h).2;obtain⟨⟨h1,h2⟩,_⟩:=hi;obtain⟨k,hk⟩:∃k:Nat,i.op=(k:Int)+1:=⟨(i.op-1).toNat,oM⟩
 unfold AJ CI at e;have e1:=(List.cons.inj e).1;rw[hk]at e1;exact(J6 k oM).1 e1
theorem PG{i:Ax}(n:Int)(hi:ED i):AQ n (AJ i)=none:=Bf fun p h=>by
 have e:=(Fu h).2;obtain⟨⟨h1,h2⟩,_⟩:=hi;obtain⟨k,hk⟩:∃k:Nat,i.op=(k:Int)+1:=⟨(i.op-1).toNat,oM⟩
 unfold AJ Bv at e;have e1:=(List.cons.inj e).1;rw[hk]at e1;exact(J6 k oM).2.1 e1
theorem FH:∀ (l m:List Bs) (s s':Nat×Cd) (n:Nat),FA s n l=.ok s'->FA s n (l++m)=FA s' (n+l.length) m
 |[],m,s,s',n,h=>by cases h;rfl
 |a::l,m,s,s',n,h=>by
  have h:(match AD s (Aj [] a)with |some s'=>FA s' (n+1) l|none=>.error n)=.ok s':=h;show(match AD s (Aj [] a)with |some s'=>FA s' (n+1) (l++m)|none=>.error n)=_;cases hs:AD s (Aj [] a)with
  |none=>rw[hs]at h;cases h
  |some s1=>
   rw[hs]at h;show FA s1 (n+1) (l++m)=_;rw[FH l m s1 s' (n+1) h,List.length_cons,show n+1+l.length=n+(l.length+1) by omega]
theorem IW{s s':Nat×Cd}{w:List Bs}{r:List Bs}{n:Nat}(h0:w≠[])(hw:∀x∈w,Br x)(h:AD s w=some s'):FA s n (A7 w::r)=FA s' (n+1) r:=by
 show(match AD s (Aj [] (A7 w))with |some s'=>FA s' (n+1) r|none=>.error n)=_;rw[Ho w h0 hw,h]
theorem Mw:∀ (ps:List Bc) (c:Cd) (n:Nat),(∀p∈ps,AK p=true)->FA (0,c) n ((ps.map Bh).map A7)=.ok (0,⟨c.sign++ps,c.regs,c.slots,c.list⟩)
 |[],c,n,_=>by rw[List.append_nil];rfl
 |p::ps,c,n,h=>by
  have hp:=h p sM;rw[List.map_cons,List.map_cons,IW (s':=(0,⟨c.sign++[p],c.regs,c.slots,c.list⟩)) (by simp[Bh]) (Iw hp) (by unfold AD;rw[if_pos rfl,UC hp];rfl),Mw ps _ (n+1) (fun q hq=>h q (List.mem_cons_of_mem _ hq))];simp
theorem Mx:∀ (ts:List Ty) (st:Nat) (c:Cd) (n:Nat),st<=1->c.regs.length+ts.length<=2147483647->(∀t∈ts,EE t)->∃st',st'<=1/\FA (st,c) n ((Bu c.regs.length ts).map A7)=.ok (st',⟨c.sign,c.regs++ts,c.slots,c.list⟩)
 |[],st,c,n,hs,_,_=>⟨st,hs,by rw[List.append_nil];rfl⟩
 |t::ts,st,c,n,hs,hl,h=>by
  rw[List.length_cons]at hl;obtain⟨st',h1,h2⟩:=Mx ts 1 ⟨c.sign,c.regs++[t],c.slots,c.list⟩ (n+1) oM Yo (fun q hq=>h q (List.mem_cons_of_mem _ hq));refine⟨st',h1,?_⟩;have hst:AD (st,c) (CI (c.regs.length:Int) t)=some (1,⟨c.sign,c.regs++[t],c.slots,c.list⟩):=by
   unfold AD;rw[SZ];simp only[ite_self];rw[if_pos hs,UO oM oM (h t sM)];rfl
  simp only[Bu,List.map_cons];rw[IW (by simp[CI]) (Iy _ t) hst];have e:(c.regs++[t]).length=c.regs.length+1:=sM;simp only[e]at h2;rw[h2];simp
theorem JN:∀ (ts:List Sl) (st:Nat) (c:Cd) (n:Nat),st<=2->c.slots.length+ts.length<=2147483647->(∀t∈ts,Hv t)->∃st',st'<=2/\FA (st,c) n ((B2 c.slots.length ts).map A7)=.ok (st',⟨c.sign,c.regs,c.slots++ts,c.list⟩)
 |[],st,c,n,hs,_,_=>⟨st,hs,by rw[List.append_nil];rfl⟩
 |t::ts,st,c,n,hs,hl,h=>by
  rw[List.length_cons]at hl;obtain⟨st',h1,h2⟩:=JN ts 2 ⟨c.sign,c.regs,c.slots++[t],c.list⟩ (n+1) oM Yo (fun q hq=>h q (List.mem_cons_of_mem _ hq));refine⟨st',h1,?_⟩;have hst:AD (st,c) (Bv (c.slots.length:Int) t)=some (2,⟨c.sign,c.regs,c.slots++[t],c.list⟩):=by
   unfold AD;rw[Rt,Ru];simp only[ite_self];rw[if_pos hs,Tn oM oM (h t sM)];rfl
  simp only[B2,List.map_cons];rw[IW (by simp[Bv]) (Hf _ t) hst];have e:(c.slots++[t]).length=c.slots.length+1:=sM;simp only[e]at h2;rw[h2];simp
theorem Mv:∀ (is_:List Ax) (st:Nat) (c:Cd) (n:Nat),(∀i∈is_,ED i)->∃st',FA (st,c) n ((is_.map AJ).map A7)=.ok (st',⟨c.sign,c.regs,c.slots,c.list++is_⟩)
 |[],st,c,n,_=>⟨st,by rw[List.append_nil];rfl⟩
 |i::r,st,c,n,h=>by
  have hi:=h i sM;obtain⟨st',h2⟩:=Mv r 3 ⟨c.sign,c.regs,c.slots,c.list++[i]⟩ (n+1) (fun q hq=>h q (List.mem_cons_of_mem _ hq));refine⟨st',?_⟩;have hst:AD (st,c) (AJ i)=some (3,⟨c.sign,c.regs,c.slots,c.list++[i]⟩):=by
   unfold AD;rw[S7 hi,S8 _ hi,PG _ hi];simp only[ite_self];rw[Un hi];rfl
  rw[List.map_cons,List.map_cons,IW (by simp[AJ]) (Ii hi) hst,h2];simp
end Go.Proofs.YtjlpkjblkllfbaaGreatDoor
