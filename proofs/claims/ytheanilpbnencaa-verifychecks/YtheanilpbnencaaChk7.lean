import Derived.Test.YtheanilpbnencaaChk2
import Derived.Test.YtheanilpbnencaaRows
import Derived.WalkKit
import Derived.WalkSpells
import Derived.WalkLawsBesides
import Derived.Test.YtheanilpbnencaaChk1
namespace Go.Proofs.Ytheanilpbnencaa
open Go.RowKit Go.Proofs.Try
set_option linter.all false
set_option maxRecDepth 100000
set_option maxHeartbeats 16000000
theorem HI(w:World):Calls prog 42 #[.int .i64 22] w fun e w'=>e=.returned (.tuple #[Bi (Aa 22),.bool true])/\Below w.heap.size w w':=by
 exact BQ
theorem HY(w:World):Calls prog 42 #[.int .i64 23] w fun e w'=>e=.returned (.tuple #[Bi (Aa 23),.bool true])/\Below w.heap.size w w':=by
 exact BQ
theorem I0(w:World):Calls prog 42 #[.int .i64 24] w fun e w'=>e=.returned (.tuple #[Bi (Aa 24),.bool true])/\Below w.heap.size w w':=by
 exact BQ
theorem I1(w:World):Calls prog 42 #[.int .i64 25] w fun e w'=>e=.returned (.tuple #[Bi (Aa 25),.bool true])/\Below w.heap.size w w':=by
 exact BQ
theorem I2(w:World):Calls prog 42 #[.int .i64 26] w fun e w'=>e=.returned (.tuple #[Bi (Aa 26),.bool true])/\Below w.heap.size w w':=by
 exact BQ
theorem I3(w:World):Calls prog 42 #[.int .i64 27] w fun e w'=>e=.returned (.tuple #[Bi (Aa 27),.bool true])/\Below w.heap.size w w':=by
 exact BQ
theorem I4(w:World):Calls prog 42 #[.int .i64 28] w fun e w'=>e=.returned (.tuple #[Bi (Aa 28),.bool true])/\Below w.heap.size w w':=by
 exact BQ
theorem I5(w:World):Calls prog 42 #[.int .i64 29] w fun e w'=>e=.returned (.tuple #[Bi (Aa 29),.bool true])/\Below w.heap.size w w':=by
 exact BQ
theorem I6(w:World):Calls prog 42 #[.int .i64 30] w fun e w'=>e=.returned (.tuple #[Bi (Aa 30),.bool true])/\Below w.heap.size w w':=by
 exact BQ
theorem I7(w:World):Calls prog 42 #[.int .i64 31] w fun e w'=>e=.returned (.tuple #[Bi (Aa 31),.bool true])/\Below w.heap.size w w':=by
 exact BQ
theorem I8(w:World):Calls prog 42 #[.int .i64 32] w fun e w'=>e=.returned (.tuple #[Bi (Aa 32),.bool true])/\Below w.heap.size w w':=by
 exact BQ
theorem I9(w:World):Calls prog 42 #[.int .i64 33] w fun e w'=>e=.returned (.tuple #[Bi (Aa 33),.bool true])/\Below w.heap.size w w':=by
 exact BQ
theorem Ia(w:World):Calls prog 42 #[.int .i64 34] w fun e w'=>e=.returned (.tuple #[Bi (Aa 34),.bool true])/\Below w.heap.size w w':=by
 exact BQ
theorem Ib(w:World):Calls prog 42 #[.int .i64 35] w fun e w'=>e=.returned (.tuple #[Bi (Aa 35),.bool true])/\Below w.heap.size w w':=by
 exact BQ
theorem Ic(w:World):Calls prog 42 #[.int .i64 36] w fun e w'=>e=.returned (.tuple #[Bi (Aa 36),.bool true])/\Below w.heap.size w w':=by
 exact BQ
theorem Ie(w:World):Calls prog 42 #[.int .i64 37] w fun e w'=>e=.returned (.tuple #[Bi (Aa 37),.bool true])/\Below w.heap.size w w':=by
 exact BQ
theorem Ht(w:World):Calls prog 42 #[.int .i64 13] w fun e w'=>e=.returned (.tuple #[Bi (Aa 13),.bool true])/\Below w.heap.size w w':=by
 exact BQ
theorem Hu(w:World):Calls prog 42 #[.int .i64 14] w fun e w'=>e=.returned (.tuple #[Bi (Aa 14),.bool true])/\Below w.heap.size w w':=by
 exact BQ
theorem Hv(w:World):Calls prog 42 #[.int .i64 15] w fun e w'=>e=.returned (.tuple #[Bi (Aa 15),.bool true])/\Below w.heap.size w w':=by
 exact BQ
theorem Hw(w:World):Calls prog 42 #[.int .i64 16] w fun e w'=>e=.returned (.tuple #[Bi (Aa 16),.bool true])/\Below w.heap.size w w':=by
 exact BQ
theorem Hx(w:World):Calls prog 42 #[.int .i64 17] w fun e w'=>e=.returned (.tuple #[Bi (Aa 17),.bool true])/\Below w.heap.size w w':=by
 exact BQ
theorem Hy(w:World):Calls prog 42 #[.int .i64 18] w fun e w'=>e=.returned (.tuple #[Bi (Aa 18),.bool true])/\Below w.heap.size w w':=by
 exact BQ
theorem Hz(w:World):Calls prog 42 #[.int .i64 19] w fun e w'=>e=.returned (.tuple #[Bi (Aa 19),.bool true])/\Below w.heap.size w w':=by
 exact BQ
theorem HG(w:World):Calls prog 42 #[.int .i64 20] w fun e w'=>e=.returned (.tuple #[Bi (Aa 20),.bool true])/\Below w.heap.size w w':=by
 exact BQ
theorem HH(w:World):Calls prog 42 #[.int .i64 21] w fun e w'=>e=.returned (.tuple #[Bi (Aa 21),.bool true])/\Below w.heap.size w w':=by
 exact BQ
theorem G3(w:World):Calls prog 54 #[.int .i64 22] w fun e w'=>e=.returned (.tuple #[.string ⟨#[119,119,119,45,45]⟩,.bool true])/\w'=w:=by
 exact BR
theorem G4(w:World):Calls prog 54 #[.int .i64 23] w fun e w'=>e=.returned (.tuple #[.string ⟨#[119,119,119,45,45]⟩,.bool true])/\w'=w:=by
 exact BR
theorem G5(w:World):Calls prog 54 #[.int .i64 24] w fun e w'=>e=.returned (.tuple #[.string ⟨#[119,119,119,45,45]⟩,.bool true])/\w'=w:=by
 exact BR
theorem G6(w:World):Calls prog 54 #[.int .i64 25] w fun e w'=>e=.returned (.tuple #[.string ⟨#[119,119,45,45,45]⟩,.bool true])/\w'=w:=by
 exact BR
theorem G7(w:World):Calls prog 54 #[.int .i64 26] w fun e w'=>e=.returned (.tuple #[.string ⟨#[119,119,119,119,45]⟩,.bool true])/\w'=w:=by
 exact BR
theorem G8(w:World):Calls prog 54 #[.int .i64 27] w fun e w'=>e=.returned (.tuple #[.string ⟨#[119,119,119,45,45]⟩,.bool true])/\w'=w:=by
 exact BR
theorem G9(w:World):Calls prog 54 #[.int .i64 28] w fun e w'=>e=.returned (.tuple #[.string ⟨#[119,119,119,45,45]⟩,.bool true])/\w'=w:=by
 exact BR
theorem Ga(w:World):Calls prog 54 #[.int .i64 29] w fun e w'=>e=.returned (.tuple #[.string ⟨#[118,45,45,45,112]⟩,.bool true])/\w'=w:=by
 exact BR
theorem FT(w:World):Calls prog 54 #[.int .i64 13] w fun e w'=>e=.returned (.tuple #[.string ⟨#[100,120,45,45,45]⟩,.bool true])/\w'=w:=by
 exact BR
theorem FU(w:World):Calls prog 54 #[.int .i64 14] w fun e w'=>e=.returned (.tuple #[.string ⟨#[100,120,45,45,45]⟩,.bool true])/\w'=w:=by
 exact BR
theorem FV(w:World):Calls prog 54 #[.int .i64 15] w fun e w'=>e=.returned (.tuple #[.string ⟨#[100,120,120,120,45]⟩,.bool true])/\w'=w:=by
 exact BR
theorem FX(w:World):Calls prog 54 #[.int .i64 16] w fun e w'=>e=.returned (.tuple #[.string ⟨#[110,110,119,45,45]⟩,.bool true])/\w'=w:=by
 exact BR
theorem FY(w:World):Calls prog 54 #[.int .i64 17] w fun e w'=>e=.returned (.tuple #[.string ⟨#[110,119,45,45,45]⟩,.bool true])/\w'=w:=by
 exact BR
theorem FZ(w:World):Calls prog 54 #[.int .i64 18] w fun e w'=>e=.returned (.tuple #[.string ⟨#[119,110,45,45,45]⟩,.bool true])/\w'=w:=by
 exact BR
theorem G0(w:World):Calls prog 54 #[.int .i64 19] w fun e w'=>e=.returned (.tuple #[.string ⟨#[110,118,45,45,45]⟩,.bool true])/\w'=w:=by
 exact BR
theorem G1(w:World):Calls prog 54 #[.int .i64 20] w fun e w'=>e=.returned (.tuple #[.string ⟨#[110,118,45,45,45]⟩,.bool true])/\w'=w:=by
 exact BR
theorem G2(w:World):Calls prog 54 #[.int .i64 21] w fun e w'=>e=.returned (.tuple #[.string ⟨#[119,119,45,45,45]⟩,.bool true])/\w'=w:=by
 exact BR
theorem Ii(w:World):Calls prog 54 #[.int .i64 1] w fun e w'=>e=.returned (.tuple #[.string ⟨#[110,45,45,45,45]⟩,.bool true])/\w'=w:=by
 exact BR
theorem Ij(w:World):Calls prog 54 #[.int .i64 2] w fun e w'=>e=.returned (.tuple #[.string ⟨#[119,45,45,45,105]⟩,.bool true])/\w'=w:=by
 exact BR
theorem Ik(w:World):Calls prog 54 #[.int .i64 3] w fun e w'=>e=.returned (.tuple #[.string ⟨#[97,99,45,45,45]⟩,.bool true])/\w'=w:=by
 exact BR
theorem Il(w:World):Calls prog 54 #[.int .i64 4] w fun e w'=>e=.returned (.tuple #[.string ⟨#[100,120,120,45,45]⟩,.bool true])/\w'=w:=by
 exact BR
theorem Im(w:World):Calls prog 54 #[.int .i64 5] w fun e w'=>e=.returned (.tuple #[.string ⟨#[100,120,120,45,45]⟩,.bool true])/\w'=w:=by
 exact BR
theorem In(w:World):Calls prog 54 #[.int .i64 6] w fun e w'=>e=.returned (.tuple #[.string ⟨#[100,120,120,45,45]⟩,.bool true])/\w'=w:=by
 exact BR
theorem Io(w:World):Calls prog 54 #[.int .i64 7] w fun e w'=>e=.returned (.tuple #[.string ⟨#[100,120,120,45,45]⟩,.bool true])/\w'=w:=by
 exact BR
theorem Ip(w:World):Calls prog 54 #[.int .i64 8] w fun e w'=>e=.returned (.tuple #[.string ⟨#[100,120,120,45,45]⟩,.bool true])/\w'=w:=by
 exact BR
theorem Iq(w:World):Calls prog 54 #[.int .i64 9] w fun e w'=>e=.returned (.tuple #[.string ⟨#[100,120,120,45,45]⟩,.bool true])/\w'=w:=by
 exact BR
theorem FQ(w:World):Calls prog 54 #[.int .i64 10] w fun e w'=>e=.returned (.tuple #[.string ⟨#[100,120,120,45,45]⟩,.bool true])/\w'=w:=by
 exact BR
theorem FR(w:World):Calls prog 54 #[.int .i64 11] w fun e w'=>e=.returned (.tuple #[.string ⟨#[100,120,45,45,45]⟩,.bool true])/\w'=w:=by
 exact BR
theorem FS(w:World):Calls prog 54 #[.int .i64 12] w fun e w'=>e=.returned (.tuple #[.string ⟨#[100,120,45,45,45]⟩,.bool true])/\w'=w:=by
 exact BR

def Ir:Wk->List Av->Wk
 |s,[]=>s
 |s,i::r=>Ir (Am s i) r
def BO(c:Cd):Wk->List Av->Bool
 |_,[]=>true
 |s,i::r=>AD c s i&&BO c (Am s i) r
theorem Hb{c:Cd}:∀ {l:List Av} {s:Wk} {k:Nat},(DM c s k l).1=0↔BO c s l=true/\(Ir s l).opens.isEmpty=true
 |[],s,k=>by
  simp only[DM,BO,Ir,true_and];by_cases h:s.opens.isEmpty=true
  .simp[h]
  .simp[h]
 |i::l,s,k=>by
  simp only[DM,BO,Ir,Bool.and_eq_true];by_cases h:AD c s i=true
  .rw[if_pos h,Hb (k:=k+1)];simp[h]
  .rw[if_neg h];simp[h]
theorem AT{c:Cd}:(Ae c).1=0↔AZ c=0/\BO c ⟨[],[]⟩ c.list=true/\(Ir ⟨[],[]⟩ c.list).opens.isEmpty=true:=by
 unfold Ae;by_cases h:AZ c=0
 .rw[if_neg (by simp[h]),Hb];simp[h]
 .rw[if_pos h];simp[h]
def Dk(S:List Nat)(i:Av):List Nat:=if(Aa i.op).d≠0/\i.d.toNat∉S then S++[i.d.toNat]else S
theorem Fo:∀ {r:List Bk} {n:Nat},JY n r->∀b∈r,b.ahead<=n
 |[],_,_,b,hb=>absurd hb sM
 |a::r,n,h,b,hb=>by
  rcases List.mem_cons.1 hb with rfl|hb
  .exact h.1
  .exact gH (Fo h.2 b hb) h.1
theorem DS{s:Wk}{i:Av}(h:(Aa i.op).d=0):En s i (Aa i.op)=s:=by unfold En;rw[if_neg (fun e=>e.1 h)]
theorem FL{S:List Nat}{i:Av}{x:Nat}:x∈Dk S i↔x∈S\/((Aa i.op).d≠0/\x=i.d.toNat):=by
 unfold Dk;by_cases h:(Aa i.op).d≠0/\i.d.toNat∉S
 .rw[if_pos h,List.mem_append];simp only[List.mem_singleton];exact⟨fun q=>q.imp id fun e=>⟨h.1,e⟩,fun q=>q.imp id fun e=>e.2⟩
 .rw[if_neg h];constructor
  .exact .inl
  .rintro(q|⟨q1,q2⟩)
   .exact q
   .rw[q2];exact Decidable.byContradiction fun e=>h ⟨q1,e⟩
def B8(ps:List AR)(t:Ty):Int:=if t.kind≠3 then 1 else if Ab t.par ps.length=true then((ps[t.par.toNat]?).map fun p=>p.len).getD 0 else 0
def B3(c:Cd)(i:Av):Int:=
 if i.op=16 then 62
 else if At i.op=true\/i.op=29\/i.op=30\/i.op=32 then B8 c.sign (Ag c.regs i.d)
 else if i.op=31\/i.op=33\/i.op=19\/i.op=20 then B8 c.sign (Ag c.regs i.a)
 else 1
def AV(c:Cd):List Av->Int
 |[]=>0
 |i::l=>B3 c i+AV c l
def Bx(c:Cd):Int:=AV c c.list
def Bj(c:Cd):Int:=(c.regs.map fun t=>B8 c.sign t).sum+(c.slots.map fun s=>B8 c.sign s.ty).sum
theorem DV(c:Cd):∀l m:List Av,AV c (l++m)=AV c l+AV c m
 |[],m=>by simp[AV]
 |i::l,m=>by simp only[List.cons_append,AV,DV c l m];omega
theorem Ak{n:Int}{k:Nat}:Ab n k=true↔0<=n/\n<(k:Int):=by unfold Ab;simp
theorem Iw{ps:List AR}(h:Ao ps=0):∀p∈ps,AQ p=true:=by
 unfold Ao at h;split at h
 .exact absurd h dE
 .split at h
  .exact absurd h dE
  .rename_i h2;intro p hp;have h3:ps.all AQ=true:=by simpa using h2
   exact List.all_eq_true.1 h3 p hp
theorem IZ{p:AR}(h:AQ p=true):1<=p.len/\p.len<=4096:=by
 unfold AQ at h;simp only[Bool.and_eq_true,decide_eq_true_eq]at h;exact h.2
theorem El{ps:List AR}{t:Ty}(hs:Ao ps=0)(ht:Aj t ps.length=true):1<=B8 ps t/\B8 ps t<=4096:=by
 unfold B8;by_cases h3:t.kind=3
 .rw[if_neg (by simp[h3])];unfold Aj at ht;rw[if_neg oM,if_pos h3]at ht;rw[if_pos ht];obtain⟨h0,h1⟩:=Ak.1 ht;have hl:t.par.toNat<ps.length:=oM;rw[gB hl];exact IZ (Iw hs _ (gD hl))
 .rw[if_pos h3];omega
theorem EG{c:Cd}{n:Int}(ht:Ac c=true)(hn:Ab n c.regs.length=true):Aj (Ag c.regs n) c.sign.length=true:=by
 obtain⟨h0,h1⟩:=Ak.1 hn;have hl:n.toNat<c.regs.length:=oM;unfold Ag;rw[if_pos hn,gB hl];exact List.all_eq_true.1 ht _ (gD hl)
theorem E9{rs:List Ty}{l n:Int}{m:Ty}(h:A8 rs l n m=true)(hl:l≠0):Ab n rs.length=true:=by
 unfold A8 at h;rw[if_neg hl]at h;simp only[Bool.and_eq_true]at h;exact h.1
theorem Ig:∀n:Nat,n<38->(At (n:Int)=true\/(n:Int)=29\/(n:Int)=30\/(n:Int)=32)->(Aa (n:Int)).d≠0:=by decide+kernel
theorem If:∀n:Nat,n<38->((n:Int)=31\/(n:Int)=33\/(n:Int)=19\/(n:Int)=20)->(Aa (n:Int)).a≠0:=by decide+kernel
structure Tk(c:Cd)(s:Wk)(i:Av):Prop where
 known:1<=i.op/\i.op<=37
 d:A8 c.regs (Aa i.op).d i.d (Al c.regs i (Aa i.op))=true
 a:A8 c.regs (Aa i.op).a i.a (Al c.regs i (Aa i.op))=true
 b:A8 c.regs (Aa i.op).b i.b (Al c.regs i (Aa i.op))=true
 e:A8 c.regs (Aa i.op).c i.c (Al c.regs i (Aa i.op))=true
 n:B4 c i (Aa i.op).n (Al c.regs i (Aa i.op))=true
 stand:Aq c s i (Aa i.op)=true
 read:D7 s i (Aa i.op)=true
theorem ID{c:Cd}{s:Wk}{i:Av}:AD c s i=true↔Tk c s i:=by
 unfold AD AG An;simp only[Bool.and_eq_true,decide_eq_true_eq];exact⟨fun⟨k,⟨d,a,b,e,n⟩,st,r⟩=>⟨k,d,a,b,e,n,st,r⟩,fun h=>⟨h.known,⟨h.d,h.a,h.b,h.e,h.n⟩,h.stand,h.read⟩⟩
theorem JU{c:Cd}{s:Wk}{i:Av}(hs:Ao c.sign=0)(ht:Ac c=true)(h:Tk c s i):1<=B3 c i/\B3 c i<=4096:=by
 obtain⟨N,hN⟩:∃N:Nat,i.op=(N:Int):=⟨i.op.toNat,by have:=h.known;omega⟩
 have hN2:N<38:=by have:=h.known;omega
 unfold B3;by_cases h1:i.op=16
 .rw[if_pos h1];omega
 .rw[if_neg h1];by_cases h2:At i.op=true\/i.op=29\/i.op=30\/i.op=32
  .rw[if_pos h2];refine El hs (EG ht (E9 h.d ?_));rw[hN]at h2 |-;exact Ig N hN2 h2
  .rw[if_neg h2];by_cases h3:i.op=31\/i.op=33\/i.op=19\/i.op=20
   .rw[if_pos h3];refine El hs (EG ht (E9 h.a ?_));rw[hN]at h3 |-;exact If N hN2 h3
   .rw[if_neg h3];omega
theorem E5{c:Cd}(hs:Ao c.sign=0)(ht:Ac c=true):∀ (l:List Av) (s:Wk),BO c s l=true->∀i∈l,1<=B3 c i/\B3 c i<=4096
 |[],s,_,i,hi=>by cases hi
 |j::l,s,h,i,hi=>by
  simp only[BO,Bool.and_eq_true]at h;rcases List.mem_cons.1 hi with e|e
  .rw[e];exact JU hs ht (ID.1 h.1)
  .exact E5 hs ht l _ h.2 i e
structure Ah(c:Cd):Prop where
 sign:Ao c.sign=0
 regs:c.regs.length<=16384
 list:c.list.length<=32768
 slots:c.slots.length<=4096
 types:Ac c=true
 begun:AE c=true
theorem C6{c:Cd}:AZ c=0↔Ah c:=by
 unfold AZ;by_cases h0:Ao c.sign=0
 .rw[if_neg (by simp[h0])];by_cases h1:16384<c.regs.length\/32768<c.list.length
  .rw[if_pos h1];exact⟨fun h=>absurd h dE,fun h=>by have:=h.regs;have:=h.list;omega⟩
  .rw[if_neg h1];by_cases h2:4096<c.slots.length
   .rw[if_pos h2];exact⟨fun h=>absurd h dE,fun h=>by have:=h.slots;omega⟩
   .rw[if_neg h2];by_cases h3:(Ac c&&AE c)=true
    .rw[if_pos h3];simp only[Bool.and_eq_true]at h3;exact⟨fun _=>⟨h0,oM,oM,oM,h3.1,h3.2⟩,fun _=>rfl⟩
    .rw[if_neg h3];exact⟨fun h=>absurd h dE,fun h=>absurd (by rw[h.types,h.begun];rfl) h3⟩
 .rw[if_pos h0];exact⟨fun h=>absurd h h0,fun h=>absurd h.sign h0⟩
theorem DI{c:Cd}(hc:(Ae c).1=0):∀i∈c.list,1<=B3 c i/\B3 c i<=4096:=by
 obtain⟨h1,h2,h3⟩:=AT.1 hc;have hA:=C6.1 h1;exact E5 hA.sign hA.types c.list _ h2
theorem Ev{c:Cd}:∀ (l:List Av),(∀i∈l,1<=B3 c i/\B3 c i<=4096)->(l.length:Int)<=AV c l/\AV c l<=4096*(l.length:Int)
 |[],_=>by simp[AV]
 |i::l,h=>by
  have h1:=h i sM;have h2:=Ev l (fun j hj=>h j (List.mem_cons_of_mem _ hj));simp only[AV,List.length_cons];omega
end Go.Proofs.Ytheanilpbnencaa
