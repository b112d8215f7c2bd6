import Derived.Test.YtheanilpbnencaaGre2
import Derived.Test.YtheanilpbnencaaRows
import Derived.WalkKit
import Derived.WalkSpells
import Derived.WalkLawsBesides
import Derived.Test.YtheanilpbnencaaGre1
namespace Go.Proofs.Ytheanilpbnencaa
open Go.RowKit Go.Proofs.Try
set_option linter.all false
set_option maxRecDepth 100000
set_option maxHeartbeats 16000000
theorem Hq(w:World):Calls prog 42 #[.int .i64 22] w fun e w'=>e=.returned (.tuple #[Bo (Ad 22),.bool true])/\Below w.heap.size w w':=by
 exact BV
theorem Hr(w:World):Calls prog 42 #[.int .i64 23] w fun e w'=>e=.returned (.tuple #[Bo (Ad 23),.bool true])/\Below w.heap.size w w':=by
 exact BV
theorem Hs(w:World):Calls prog 42 #[.int .i64 24] w fun e w'=>e=.returned (.tuple #[Bo (Ad 24),.bool true])/\Below w.heap.size w w':=by
 exact BV
theorem Ht(w:World):Calls prog 42 #[.int .i64 25] w fun e w'=>e=.returned (.tuple #[Bo (Ad 25),.bool true])/\Below w.heap.size w w':=by
 exact BV
theorem Hu(w:World):Calls prog 42 #[.int .i64 26] w fun e w'=>e=.returned (.tuple #[Bo (Ad 26),.bool true])/\Below w.heap.size w w':=by
 exact BV
theorem Hv(w:World):Calls prog 42 #[.int .i64 27] w fun e w'=>e=.returned (.tuple #[Bo (Ad 27),.bool true])/\Below w.heap.size w w':=by
 exact BV
theorem Hw(w:World):Calls prog 42 #[.int .i64 28] w fun e w'=>e=.returned (.tuple #[Bo (Ad 28),.bool true])/\Below w.heap.size w w':=by
 exact BV
theorem Hx(w:World):Calls prog 42 #[.int .i64 29] w fun e w'=>e=.returned (.tuple #[Bo (Ad 29),.bool true])/\Below w.heap.size w w':=by
 exact BV
theorem Hy(w:World):Calls prog 42 #[.int .i64 30] w fun e w'=>e=.returned (.tuple #[Bo (Ad 30),.bool true])/\Below w.heap.size w w':=by
 exact BV
theorem Hz(w:World):Calls prog 42 #[.int .i64 31] w fun e w'=>e=.returned (.tuple #[Bo (Ad 31),.bool true])/\Below w.heap.size w w':=by
 exact BV
theorem HH(w:World):Calls prog 42 #[.int .i64 32] w fun e w'=>e=.returned (.tuple #[Bo (Ad 32),.bool true])/\Below w.heap.size w w':=by
 exact BV
theorem HI(w:World):Calls prog 42 #[.int .i64 33] w fun e w'=>e=.returned (.tuple #[Bo (Ad 33),.bool true])/\Below w.heap.size w w':=by
 exact BV
theorem HY(w:World):Calls prog 42 #[.int .i64 34] w fun e w'=>e=.returned (.tuple #[Bo (Ad 34),.bool true])/\Below w.heap.size w w':=by
 exact BV
theorem I0(w:World):Calls prog 42 #[.int .i64 35] w fun e w'=>e=.returned (.tuple #[Bo (Ad 35),.bool true])/\Below w.heap.size w w':=by
 exact BV
theorem I1(w:World):Calls prog 42 #[.int .i64 36] w fun e w'=>e=.returned (.tuple #[Bo (Ad 36),.bool true])/\Below w.heap.size w w':=by
 exact BV
theorem I2(w:World):Calls prog 42 #[.int .i64 37] w fun e w'=>e=.returned (.tuple #[Bo (Ad 37),.bool true])/\Below w.heap.size w w':=by
 exact BV
theorem Hh(w:World):Calls prog 42 #[.int .i64 13] w fun e w'=>e=.returned (.tuple #[Bo (Ad 13),.bool true])/\Below w.heap.size w w':=by
 exact BV
theorem Hi(w:World):Calls prog 42 #[.int .i64 14] w fun e w'=>e=.returned (.tuple #[Bo (Ad 14),.bool true])/\Below w.heap.size w w':=by
 exact BV
theorem Hj(w:World):Calls prog 42 #[.int .i64 15] w fun e w'=>e=.returned (.tuple #[Bo (Ad 15),.bool true])/\Below w.heap.size w w':=by
 exact BV
theorem Hk(w:World):Calls prog 42 #[.int .i64 16] w fun e w'=>e=.returned (.tuple #[Bo (Ad 16),.bool true])/\Below w.heap.size w w':=by
 exact BV
theorem Hl(w:World):Calls prog 42 #[.int .i64 17] w fun e w'=>e=.returned (.tuple #[Bo (Ad 17),.bool true])/\Below w.heap.size w w':=by
 exact BV
theorem Hm(w:World):Calls prog 42 #[.int .i64 18] w fun e w'=>e=.returned (.tuple #[Bo (Ad 18),.bool true])/\Below w.heap.size w w':=by
 exact BV
theorem Hn(w:World):Calls prog 42 #[.int .i64 19] w fun e w'=>e=.returned (.tuple #[Bo (Ad 19),.bool true])/\Below w.heap.size w w':=by
 exact BV
theorem Ho(w:World):Calls prog 42 #[.int .i64 20] w fun e w'=>e=.returned (.tuple #[Bo (Ad 20),.bool true])/\Below w.heap.size w w':=by
 exact BV
theorem Hp(w:World):Calls prog 42 #[.int .i64 21] w fun e w'=>e=.returned (.tuple #[Bo (Ad 21),.bool true])/\Below w.heap.size w w':=by
 exact BV
theorem FQ(w:World):Calls prog 54 #[.int .i64 22] w fun e w'=>e=.returned (.tuple #[.string ⟨#[119,119,119,45,45]⟩,.bool true])/\w'=w:=by
 exact BY
theorem FR(w:World):Calls prog 54 #[.int .i64 23] w fun e w'=>e=.returned (.tuple #[.string ⟨#[119,119,119,45,45]⟩,.bool true])/\w'=w:=by
 exact BY
theorem FS(w:World):Calls prog 54 #[.int .i64 24] w fun e w'=>e=.returned (.tuple #[.string ⟨#[119,119,119,45,45]⟩,.bool true])/\w'=w:=by
 exact BY
theorem FT(w:World):Calls prog 54 #[.int .i64 25] w fun e w'=>e=.returned (.tuple #[.string ⟨#[119,119,45,45,45]⟩,.bool true])/\w'=w:=by
 exact BY
theorem FU(w:World):Calls prog 54 #[.int .i64 26] w fun e w'=>e=.returned (.tuple #[.string ⟨#[119,119,119,119,45]⟩,.bool true])/\w'=w:=by
 exact BY
theorem FV(w:World):Calls prog 54 #[.int .i64 27] w fun e w'=>e=.returned (.tuple #[.string ⟨#[119,119,119,45,45]⟩,.bool true])/\w'=w:=by
 exact BY
theorem FX(w:World):Calls prog 54 #[.int .i64 28] w fun e w'=>e=.returned (.tuple #[.string ⟨#[119,119,119,45,45]⟩,.bool true])/\w'=w:=by
 exact BY
theorem FY(w:World):Calls prog 54 #[.int .i64 29] w fun e w'=>e=.returned (.tuple #[.string ⟨#[118,45,45,45,112]⟩,.bool true])/\w'=w:=by
 exact BY
theorem FH(w:World):Calls prog 54 #[.int .i64 13] w fun e w'=>e=.returned (.tuple #[.string ⟨#[100,120,45,45,45]⟩,.bool true])/\w'=w:=by
 exact BY
theorem FI(w:World):Calls prog 54 #[.int .i64 14] w fun e w'=>e=.returned (.tuple #[.string ⟨#[100,120,45,45,45]⟩,.bool true])/\w'=w:=by
 exact BY
theorem FJ(w:World):Calls prog 54 #[.int .i64 15] w fun e w'=>e=.returned (.tuple #[.string ⟨#[100,120,120,120,45]⟩,.bool true])/\w'=w:=by
 exact BY
theorem FK(w:World):Calls prog 54 #[.int .i64 16] w fun e w'=>e=.returned (.tuple #[.string ⟨#[110,110,119,45,45]⟩,.bool true])/\w'=w:=by
 exact BY
theorem FL(w:World):Calls prog 54 #[.int .i64 17] w fun e w'=>e=.returned (.tuple #[.string ⟨#[110,119,45,45,45]⟩,.bool true])/\w'=w:=by
 exact BY
theorem FM(w:World):Calls prog 54 #[.int .i64 18] w fun e w'=>e=.returned (.tuple #[.string ⟨#[119,110,45,45,45]⟩,.bool true])/\w'=w:=by
 exact BY
theorem FN(w:World):Calls prog 54 #[.int .i64 19] w fun e w'=>e=.returned (.tuple #[.string ⟨#[110,118,45,45,45]⟩,.bool true])/\w'=w:=by
 exact BY
theorem FO(w:World):Calls prog 54 #[.int .i64 20] w fun e w'=>e=.returned (.tuple #[.string ⟨#[110,118,45,45,45]⟩,.bool true])/\w'=w:=by
 exact BY
theorem FP(w:World):Calls prog 54 #[.int .i64 21] w fun e w'=>e=.returned (.tuple #[.string ⟨#[119,119,45,45,45]⟩,.bool true])/\w'=w:=by
 exact BY
theorem I6(w:World):Calls prog 54 #[.int .i64 1] w fun e w'=>e=.returned (.tuple #[.string ⟨#[110,45,45,45,45]⟩,.bool true])/\w'=w:=by
 exact BY
theorem I7(w:World):Calls prog 54 #[.int .i64 2] w fun e w'=>e=.returned (.tuple #[.string ⟨#[119,45,45,45,105]⟩,.bool true])/\w'=w:=by
 exact BY
theorem I8(w:World):Calls prog 54 #[.int .i64 3] w fun e w'=>e=.returned (.tuple #[.string ⟨#[97,99,45,45,45]⟩,.bool true])/\w'=w:=by
 exact BY
theorem I9(w:World):Calls prog 54 #[.int .i64 4] w fun e w'=>e=.returned (.tuple #[.string ⟨#[100,120,120,45,45]⟩,.bool true])/\w'=w:=by
 exact BY
theorem Ia(w:World):Calls prog 54 #[.int .i64 5] w fun e w'=>e=.returned (.tuple #[.string ⟨#[100,120,120,45,45]⟩,.bool true])/\w'=w:=by
 exact BY
theorem Ib(w:World):Calls prog 54 #[.int .i64 6] w fun e w'=>e=.returned (.tuple #[.string ⟨#[100,120,120,45,45]⟩,.bool true])/\w'=w:=by
 exact BY
theorem Ic(w:World):Calls prog 54 #[.int .i64 7] w fun e w'=>e=.returned (.tuple #[.string ⟨#[100,120,120,45,45]⟩,.bool true])/\w'=w:=by
 exact BY
theorem Ie(w:World):Calls prog 54 #[.int .i64 8] w fun e w'=>e=.returned (.tuple #[.string ⟨#[100,120,120,45,45]⟩,.bool true])/\w'=w:=by
 exact BY
theorem If(w:World):Calls prog 54 #[.int .i64 9] w fun e w'=>e=.returned (.tuple #[.string ⟨#[100,120,120,45,45]⟩,.bool true])/\w'=w:=by
 exact BY
theorem FE(w:World):Calls prog 54 #[.int .i64 10] w fun e w'=>e=.returned (.tuple #[.string ⟨#[100,120,120,45,45]⟩,.bool true])/\w'=w:=by
 exact BY
theorem FF(w:World):Calls prog 54 #[.int .i64 11] w fun e w'=>e=.returned (.tuple #[.string ⟨#[100,120,45,45,45]⟩,.bool true])/\w'=w:=by
 exact BY
theorem FG(w:World):Calls prog 54 #[.int .i64 12] w fun e w'=>e=.returned (.tuple #[.string ⟨#[100,120,45,45,45]⟩,.bool true])/\w'=w:=by
 exact BY

def Ig:Wk->List Ay->Wk
 |s,[]=>s
 |s,i::r=>Ig (Ar s i) r
def BS(c:Cd):Wk->List Ay->Bool
 |_,[]=>true
 |s,i::r=>AH c s i&&BS c (Ar s i) r
theorem GZ{c:Cd}:∀ {l:List Ay} {s:Wk} {k:Nat},(DC c s k l).1=0↔BS c s l=true/\(Ig s l).opens.isEmpty=true
 |[],s,k=>by
  simp only[DC,BS,Ig,true_and];by_cases h:s.opens.isEmpty=true
  .simp[h]
  .simp[h]
 |i::l,s,k=>by
  simp only[DC,BS,Ig,Bool.and_eq_true];by_cases h:AH c s i=true
  .rw[if_pos h,GZ (k:=k+1)];simp[h]
  .rw[if_neg h];simp[h]
theorem AY{c:Cd}:(Ai c).1=0↔B3 c=0/\BS c ⟨[],[]⟩ c.list=true/\(Ig ⟨[],[]⟩ c.list).opens.isEmpty=true:=by
 unfold Ai;by_cases h:B3 c=0
 .rw[if_neg (by simp[h]),GZ];simp[h]
 .rw[if_pos h];simp[h]
def Dc(S:List Nat)(i:Ay):List Nat:=if(Ad i.op).d≠0/\i.d.toNat∉S then S++[i.d.toNat]else S
theorem Fa:∀ {r:List Bk} {n:Nat},JH n r->∀b∈r,b.ahead<=n
 |[],_,_,b,hb=>absurd hb sM
 |a::r,n,h,b,hb=>by
  rcases List.mem_cons.1 hb with rfl|hb
  .exact h.1
  .exact gH (Fa h.2 b hb) h.1
theorem DI{s:Wk}{i:Ay}(h:(Ad i.op).d=0):Ef s i (Ad i.op)=s:=by unfold Ef;rw[if_neg (fun e=>e.1 h)]
theorem FA{S:List Nat}{i:Ay}{x:Nat}:x∈Dc S i↔x∈S\/((Ad i.op).d≠0/\x=i.d.toNat):=by
 unfold Dc;by_cases h:(Ad i.op).d≠0/\i.d.toNat∉S
 .rw[if_pos h,List.mem_append];simp only[List.mem_singleton];exact⟨fun q=>q.imp id fun e=>⟨h.1,e⟩,fun q=>q.imp id fun e=>e.2⟩
 .rw[if_neg h];constructor
  .exact .inl
  .rintro(q|⟨q1,q2⟩)
   .exact q
   .rw[q2];exact Decidable.byContradiction fun e=>h ⟨q1,e⟩
def Bd(ps:List AX)(t:Ty):Int:=if t.kind≠3 then 1 else if Ae t.par ps.length=true then((ps[t.par.toNat]?).map fun p=>p.len).getD 0 else 0
def B8(c:Cd)(i:Ay):Int:=
 if i.op=16 then 62
 else if Az i.op=true\/i.op=29\/i.op=30\/i.op=32 then Bd c.sign (Ak c.regs i.d)
 else if i.op=31\/i.op=33\/i.op=19\/i.op=20 then Bd c.sign (Ak c.regs i.a)
 else 1
def B0(c:Cd):List Ay->Int
 |[]=>0
 |i::l=>B8 c i+B0 c l
def By(c:Cd):Int:=B0 c c.list
def Bp(c:Cd):Int:=(c.regs.map fun t=>Bd c.sign t).sum+(c.slots.map fun s=>Bd c.sign s.ty).sum
theorem DL(c:Cd):∀l m:List Ay,B0 c (l++m)=B0 c l+B0 c m
 |[],m=>by simp[B0]
 |i::l,m=>by simp only[List.cons_append,B0,DL c l m];omega
theorem Ao{n:Int}{k:Nat}:Ae n k=true↔0<=n/\n<(k:Int):=by unfold Ae;simp
theorem Il{ps:List AX}(h:At ps=0):∀p∈ps,AW p=true:=by
 unfold At at h;split at h
 .exact absurd h dE
 .split at h
  .exact absurd h dE
  .rename_i h2;intro p hp;have h3:ps.all AW=true:=by simpa using h2
   exact List.all_eq_true.1 h3 p hp
theorem IK{p:AX}(h:AW p=true):1<=p.len/\p.len<=4096:=by
 unfold AW at h;simp only[Bool.and_eq_true,decide_eq_true_eq]at h;exact h.2
theorem Ed{ps:List AX}{t:Ty}(hs:At ps=0)(ht:Am t ps.length=true):1<=Bd ps t/\Bd ps t<=4096:=by
 unfold Bd;by_cases h3:t.kind=3
 .rw[if_neg (by simp[h3])];unfold Am at ht;rw[if_neg oM,if_pos h3]at ht;rw[if_pos ht];obtain⟨h0,h1⟩:=Ao.1 ht;have hl:t.par.toNat<ps.length:=oM;rw[gB hl];exact IK (Il hs _ (gD hl))
 .rw[if_pos h3];omega
theorem Ey{c:Cd}{n:Int}(ht:Af c=true)(hn:Ae n c.regs.length=true):Am (Ak c.regs n) c.sign.length=true:=by
 obtain⟨h0,h1⟩:=Ao.1 hn;have hl:n.toNat<c.regs.length:=oM;unfold Ak;rw[if_pos hn,gB hl];exact List.all_eq_true.1 ht _ (gD hl)
theorem E0{rs:List Ty}{l n:Int}{m:Ty}(h:Ab rs l n m=true)(hl:l≠0):Ae n rs.length=true:=by
 unfold Ab at h;rw[if_neg hl]at h;simp only[Bool.and_eq_true]at h;exact h.1
theorem I4:∀n:Nat,n<38->(Az (n:Int)=true\/(n:Int)=29\/(n:Int)=30\/(n:Int)=32)->(Ad (n:Int)).d≠0:=by decide+kernel
theorem I3:∀n:Nat,n<38->((n:Int)=31\/(n:Int)=33\/(n:Int)=19\/(n:Int)=20)->(Ad (n:Int)).a≠0:=by decide+kernel
structure Tk(c:Cd)(s:Wk)(i:Ay):Prop where
 known:1<=i.op/\i.op<=37
 d:Ab c.regs (Ad i.op).d i.d (Ap c.regs i (Ad i.op))=true
 a:Ab c.regs (Ad i.op).a i.a (Ap c.regs i (Ad i.op))=true
 b:Ab c.regs (Ad i.op).b i.b (Ap c.regs i (Ad i.op))=true
 e:Ab c.regs (Ad i.op).c i.c (Ap c.regs i (Ad i.op))=true
 n:B9 c i (Ad i.op).n (Ap c.regs i (Ad i.op))=true
 stand:Au c s i (Ad i.op)=true
 read:CU s i (Ad i.op)=true
theorem Is{c:Cd}{s:Wk}{i:Ay}:AH c s i=true↔Tk c s i:=by
 unfold AH AM As;simp only[Bool.and_eq_true,decide_eq_true_eq];exact⟨fun⟨k,⟨d,a,b,e,n⟩,st,r⟩=>⟨k,d,a,b,e,n,st,r⟩,fun h=>⟨h.known,⟨h.d,h.a,h.b,h.e,h.n⟩,h.stand,h.read⟩⟩
theorem JE{c:Cd}{s:Wk}{i:Ay}(hs:At c.sign=0)(ht:Af c=true)(h:Tk c s i):1<=B8 c i/\B8 c i<=4096:=by
 obtain⟨N,hN⟩:∃N:Nat,i.op=(N:Int):=⟨i.op.toNat,by have:=h.known;omega⟩
 have hN2:N<38:=by have:=h.known;omega
 unfold B8;by_cases h1:i.op=16
 .rw[if_pos h1];omega
 .rw[if_neg h1];by_cases h2:Az i.op=true\/i.op=29\/i.op=30\/i.op=32
  .rw[if_pos h2];refine Ed hs (Ey ht (E0 h.d ?_));rw[hN]at h2 |-;exact I4 N hN2 h2
  .rw[if_neg h2];by_cases h3:i.op=31\/i.op=33\/i.op=19\/i.op=20
   .rw[if_pos h3];refine Ed hs (Ey ht (E0 h.a ?_));rw[hN]at h3 |-;exact I3 N hN2 h3
   .rw[if_neg h3];omega
theorem DV{c:Cd}(hs:At c.sign=0)(ht:Af c=true):∀ (l:List Ay) (s:Wk),BS c s l=true->∀i∈l,1<=B8 c i/\B8 c i<=4096
 |[],s,_,i,hi=>by cases hi
 |j::l,s,h,i,hi=>by
  simp only[BS,Bool.and_eq_true]at h;rcases List.mem_cons.1 hi with e|e
  .rw[e];exact JE hs ht (Is.1 h.1)
  .exact DV hs ht l _ h.2 i e
structure Ah(c:Cd):Prop where
 sign:At c.sign=0
 regs:c.regs.length<=16384
 list:c.list.length<=32768
 slots:c.slots.length<=4096
 types:Af c=true
 begun:AJ c=true
theorem C6{c:Cd}:B3 c=0↔Ah c:=by
 unfold B3;by_cases h0:At c.sign=0
 .rw[if_neg (by simp[h0])];by_cases h1:16384<c.regs.length\/32768<c.list.length
  .rw[if_pos h1];exact⟨fun h=>absurd h dE,fun h=>by have:=h.regs;have:=h.list;omega⟩
  .rw[if_neg h1];by_cases h2:4096<c.slots.length
   .rw[if_pos h2];exact⟨fun h=>absurd h dE,fun h=>by have:=h.slots;omega⟩
   .rw[if_neg h2];by_cases h3:(Af c&&AJ c)=true
    .rw[if_pos h3];simp only[Bool.and_eq_true]at h3;exact⟨fun _=>⟨h0,oM,oM,oM,h3.1,h3.2⟩,fun _=>rfl⟩
    .rw[if_neg h3];exact⟨fun h=>absurd h dE,fun h=>absurd (by rw[h.types,h.begun];rfl) h3⟩
 .rw[if_pos h0];exact⟨fun h=>absurd h h0,fun h=>absurd h.sign h0⟩
theorem Dx{c:Cd}(hc:(Ai c).1=0):∀i∈c.list,1<=B8 c i/\B8 c i<=4096:=by
 obtain⟨h1,h2,h3⟩:=AY.1 hc;have hA:=C6.1 h1;exact DV hA.sign hA.types c.list _ h2
theorem El{c:Cd}:∀ (l:List Ay),(∀i∈l,1<=B8 c i/\B8 c i<=4096)->(l.length:Int)<=B0 c l/\B0 c l<=4096*(l.length:Int)
 |[],_=>by simp[B0]
 |i::l,h=>by
  have h1:=h i sM;have h2:=El l (fun j hj=>h j (List.mem_cons_of_mem _ hj));simp only[B0,List.length_cons];omega
end Go.Proofs.Ytheanilpbnencaa
