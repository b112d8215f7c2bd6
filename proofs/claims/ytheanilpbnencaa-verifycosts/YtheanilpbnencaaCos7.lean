import Derived.Test.YtheanilpbnencaaCos2
import Derived.Test.YtheanilpbnencaaRows
import Derived.WalkKit
import Derived.WalkSpells
import Derived.WalkLawsBesides
import Derived.Test.YtheanilpbnencaaCos1
namespace Go.Proofs.Ytheanilpbnencaa
open Go.RowKit Go.Proofs.Try
set_option linter.all false
set_option maxRecDepth 100000
set_option maxHeartbeats 16000000
theorem Ie(w:World):Calls prog 42 #[.int .i64 22] w fun e w'=>e=.returned (.tuple #[Bn (Ad 22),.bool true])/\Below w.heap.size w w':=by
 exact BY
theorem If(w:World):Calls prog 42 #[.int .i64 23] w fun e w'=>e=.returned (.tuple #[Bn (Ad 23),.bool true])/\Below w.heap.size w w':=by
 exact BY
theorem Ig(w:World):Calls prog 42 #[.int .i64 24] w fun e w'=>e=.returned (.tuple #[Bn (Ad 24),.bool true])/\Below w.heap.size w w':=by
 exact BY
theorem Ih(w:World):Calls prog 42 #[.int .i64 25] w fun e w'=>e=.returned (.tuple #[Bn (Ad 25),.bool true])/\Below w.heap.size w w':=by
 exact BY
theorem Ii(w:World):Calls prog 42 #[.int .i64 26] w fun e w'=>e=.returned (.tuple #[Bn (Ad 26),.bool true])/\Below w.heap.size w w':=by
 exact BY
theorem Ij(w:World):Calls prog 42 #[.int .i64 27] w fun e w'=>e=.returned (.tuple #[Bn (Ad 27),.bool true])/\Below w.heap.size w w':=by
 exact BY
theorem Ik(w:World):Calls prog 42 #[.int .i64 28] w fun e w'=>e=.returned (.tuple #[Bn (Ad 28),.bool true])/\Below w.heap.size w w':=by
 exact BY
theorem Il(w:World):Calls prog 42 #[.int .i64 29] w fun e w'=>e=.returned (.tuple #[Bn (Ad 29),.bool true])/\Below w.heap.size w w':=by
 exact BY
theorem Im(w:World):Calls prog 42 #[.int .i64 30] w fun e w'=>e=.returned (.tuple #[Bn (Ad 30),.bool true])/\Below w.heap.size w w':=by
 exact BY
theorem In(w:World):Calls prog 42 #[.int .i64 31] w fun e w'=>e=.returned (.tuple #[Bn (Ad 31),.bool true])/\Below w.heap.size w w':=by
 exact BY
theorem Io(w:World):Calls prog 42 #[.int .i64 32] w fun e w'=>e=.returned (.tuple #[Bn (Ad 32),.bool true])/\Below w.heap.size w w':=by
 exact BY
theorem Ip(w:World):Calls prog 42 #[.int .i64 33] w fun e w'=>e=.returned (.tuple #[Bn (Ad 33),.bool true])/\Below w.heap.size w w':=by
 exact BY
theorem Iq(w:World):Calls prog 42 #[.int .i64 34] w fun e w'=>e=.returned (.tuple #[Bn (Ad 34),.bool true])/\Below w.heap.size w w':=by
 exact BY
theorem Ir(w:World):Calls prog 42 #[.int .i64 35] w fun e w'=>e=.returned (.tuple #[Bn (Ad 35),.bool true])/\Below w.heap.size w w':=by
 exact BY
theorem Is(w:World):Calls prog 42 #[.int .i64 36] w fun e w'=>e=.returned (.tuple #[Bn (Ad 36),.bool true])/\Below w.heap.size w w':=by
 exact BY
theorem It(w:World):Calls prog 42 #[.int .i64 37] w fun e w'=>e=.returned (.tuple #[Bn (Ad 37),.bool true])/\Below w.heap.size w w':=by
 exact BY
theorem I4(w:World):Calls prog 42 #[.int .i64 13] w fun e w'=>e=.returned (.tuple #[Bn (Ad 13),.bool true])/\Below w.heap.size w w':=by
 exact BY
theorem I5(w:World):Calls prog 42 #[.int .i64 14] w fun e w'=>e=.returned (.tuple #[Bn (Ad 14),.bool true])/\Below w.heap.size w w':=by
 exact BY
theorem I6(w:World):Calls prog 42 #[.int .i64 15] w fun e w'=>e=.returned (.tuple #[Bn (Ad 15),.bool true])/\Below w.heap.size w w':=by
 exact BY
theorem I7(w:World):Calls prog 42 #[.int .i64 16] w fun e w'=>e=.returned (.tuple #[Bn (Ad 16),.bool true])/\Below w.heap.size w w':=by
 exact BY
theorem I8(w:World):Calls prog 42 #[.int .i64 17] w fun e w'=>e=.returned (.tuple #[Bn (Ad 17),.bool true])/\Below w.heap.size w w':=by
 exact BY
theorem I9(w:World):Calls prog 42 #[.int .i64 18] w fun e w'=>e=.returned (.tuple #[Bn (Ad 18),.bool true])/\Below w.heap.size w w':=by
 exact BY
theorem Ia(w:World):Calls prog 42 #[.int .i64 19] w fun e w'=>e=.returned (.tuple #[Bn (Ad 19),.bool true])/\Below w.heap.size w w':=by
 exact BY
theorem Ib(w:World):Calls prog 42 #[.int .i64 20] w fun e w'=>e=.returned (.tuple #[Bn (Ad 20),.bool true])/\Below w.heap.size w w':=by
 exact BY
theorem Ic(w:World):Calls prog 42 #[.int .i64 21] w fun e w'=>e=.returned (.tuple #[Bn (Ad 21),.bool true])/\Below w.heap.size w w':=by
 exact BY
theorem Gd(w:World):Calls prog 54 #[.int .i64 22] w fun e w'=>e=.returned (.tuple #[.string ⟨#[119,119,119,45,45]⟩,.bool true])/\w'=w:=by
 exact BZ
theorem Ge(w:World):Calls prog 54 #[.int .i64 23] w fun e w'=>e=.returned (.tuple #[.string ⟨#[119,119,119,45,45]⟩,.bool true])/\w'=w:=by
 exact BZ
theorem Gf(w:World):Calls prog 54 #[.int .i64 24] w fun e w'=>e=.returned (.tuple #[.string ⟨#[119,119,119,45,45]⟩,.bool true])/\w'=w:=by
 exact BZ
theorem Gg(w:World):Calls prog 54 #[.int .i64 25] w fun e w'=>e=.returned (.tuple #[.string ⟨#[119,119,45,45,45]⟩,.bool true])/\w'=w:=by
 exact BZ
theorem Gh(w:World):Calls prog 54 #[.int .i64 26] w fun e w'=>e=.returned (.tuple #[.string ⟨#[119,119,119,119,45]⟩,.bool true])/\w'=w:=by
 exact BZ
theorem Gi(w:World):Calls prog 54 #[.int .i64 27] w fun e w'=>e=.returned (.tuple #[.string ⟨#[119,119,119,45,45]⟩,.bool true])/\w'=w:=by
 exact BZ
theorem Gj(w:World):Calls prog 54 #[.int .i64 28] w fun e w'=>e=.returned (.tuple #[.string ⟨#[119,119,119,45,45]⟩,.bool true])/\w'=w:=by
 exact BZ
theorem Gk(w:World):Calls prog 54 #[.int .i64 29] w fun e w'=>e=.returned (.tuple #[.string ⟨#[118,45,45,45,112]⟩,.bool true])/\w'=w:=by
 exact BZ
theorem G4(w:World):Calls prog 54 #[.int .i64 13] w fun e w'=>e=.returned (.tuple #[.string ⟨#[100,120,45,45,45]⟩,.bool true])/\w'=w:=by
 exact BZ
theorem G5(w:World):Calls prog 54 #[.int .i64 14] w fun e w'=>e=.returned (.tuple #[.string ⟨#[100,120,45,45,45]⟩,.bool true])/\w'=w:=by
 exact BZ
theorem G6(w:World):Calls prog 54 #[.int .i64 15] w fun e w'=>e=.returned (.tuple #[.string ⟨#[100,120,120,120,45]⟩,.bool true])/\w'=w:=by
 exact BZ
theorem G7(w:World):Calls prog 54 #[.int .i64 16] w fun e w'=>e=.returned (.tuple #[.string ⟨#[110,110,119,45,45]⟩,.bool true])/\w'=w:=by
 exact BZ
theorem G8(w:World):Calls prog 54 #[.int .i64 17] w fun e w'=>e=.returned (.tuple #[.string ⟨#[110,119,45,45,45]⟩,.bool true])/\w'=w:=by
 exact BZ
theorem G9(w:World):Calls prog 54 #[.int .i64 18] w fun e w'=>e=.returned (.tuple #[.string ⟨#[119,110,45,45,45]⟩,.bool true])/\w'=w:=by
 exact BZ
theorem Ga(w:World):Calls prog 54 #[.int .i64 19] w fun e w'=>e=.returned (.tuple #[.string ⟨#[110,118,45,45,45]⟩,.bool true])/\w'=w:=by
 exact BZ
theorem Gb(w:World):Calls prog 54 #[.int .i64 20] w fun e w'=>e=.returned (.tuple #[.string ⟨#[110,118,45,45,45]⟩,.bool true])/\w'=w:=by
 exact BZ
theorem Gc(w:World):Calls prog 54 #[.int .i64 21] w fun e w'=>e=.returned (.tuple #[.string ⟨#[119,119,45,45,45]⟩,.bool true])/\w'=w:=by
 exact BZ
theorem Ix(w:World):Calls prog 54 #[.int .i64 1] w fun e w'=>e=.returned (.tuple #[.string ⟨#[110,45,45,45,45]⟩,.bool true])/\w'=w:=by
 exact BZ
theorem Iy(w:World):Calls prog 54 #[.int .i64 2] w fun e w'=>e=.returned (.tuple #[.string ⟨#[119,45,45,45,105]⟩,.bool true])/\w'=w:=by
 exact BZ
theorem Iz(w:World):Calls prog 54 #[.int .i64 3] w fun e w'=>e=.returned (.tuple #[.string ⟨#[97,99,45,45,45]⟩,.bool true])/\w'=w:=by
 exact BZ
theorem IA(w:World):Calls prog 54 #[.int .i64 4] w fun e w'=>e=.returned (.tuple #[.string ⟨#[100,120,120,45,45]⟩,.bool true])/\w'=w:=by
 exact BZ
theorem IB(w:World):Calls prog 54 #[.int .i64 5] w fun e w'=>e=.returned (.tuple #[.string ⟨#[100,120,120,45,45]⟩,.bool true])/\w'=w:=by
 exact BZ
theorem IC(w:World):Calls prog 54 #[.int .i64 6] w fun e w'=>e=.returned (.tuple #[.string ⟨#[100,120,120,45,45]⟩,.bool true])/\w'=w:=by
 exact BZ
theorem ID(w:World):Calls prog 54 #[.int .i64 7] w fun e w'=>e=.returned (.tuple #[.string ⟨#[100,120,120,45,45]⟩,.bool true])/\w'=w:=by
 exact BZ
theorem IE(w:World):Calls prog 54 #[.int .i64 8] w fun e w'=>e=.returned (.tuple #[.string ⟨#[100,120,120,45,45]⟩,.bool true])/\w'=w:=by
 exact BZ
theorem IF(w:World):Calls prog 54 #[.int .i64 9] w fun e w'=>e=.returned (.tuple #[.string ⟨#[100,120,120,45,45]⟩,.bool true])/\w'=w:=by
 exact BZ
theorem G1(w:World):Calls prog 54 #[.int .i64 10] w fun e w'=>e=.returned (.tuple #[.string ⟨#[100,120,120,45,45]⟩,.bool true])/\w'=w:=by
 exact BZ
theorem G2(w:World):Calls prog 54 #[.int .i64 11] w fun e w'=>e=.returned (.tuple #[.string ⟨#[100,120,45,45,45]⟩,.bool true])/\w'=w:=by
 exact BZ
theorem G3(w:World):Calls prog 54 #[.int .i64 12] w fun e w'=>e=.returned (.tuple #[.string ⟨#[100,120,45,45,45]⟩,.bool true])/\w'=w:=by
 exact BZ

def IG:Wk->List Ay->Wk
 |s,[]=>s
 |s,i::r=>IG (Ap s i) r
def BU(c:Cd):Wk->List Ay->Bool
 |_,[]=>true
 |s,i::r=>AI c s i&&BU c (Ap s i) r
theorem Ho{c:Cd}:∀ {l:List Ay} {s:Wk} {k:Nat},(DS c s k l).1=0↔BU c s l=true/\(IG s l).opens.isEmpty=true
 |[],s,k=>by
  simp only[DS,BU,IG,true_and];by_cases h:s.opens.isEmpty=true
  .simp[h]
  .simp[h]
 |i::l,s,k=>by
  simp only[DS,BU,IG,Bool.and_eq_true];by_cases h:AI c s i=true
  .rw[if_pos h,Ho (k:=k+1)];simp[h]
  .rw[if_neg h];simp[h]
theorem AY{c:Cd}:(Ai c).1=0↔B3 c=0/\BU c ⟨[],[]⟩ c.list=true/\(IG ⟨[],[]⟩ c.list).opens.isEmpty=true:=by
 unfold Ai;by_cases h:B3 c=0
 .rw[if_neg (by simp[h]),Ho];simp[h]
 .rw[if_pos h];simp[h]
def Dp(S:List Nat)(i:Ay):List Nat:=if(Ad i.op).d≠0/\i.d.toNat∉S then S++[i.d.toNat]else S
theorem Fu:∀ {r:List Bk} {n:Nat},Kn n r->∀b∈r,b.ahead<=n
 |[],_,_,b,hb=>absurd hb sM
 |a::r,n,h,b,hb=>by
  rcases List.mem_cons.1 hb with rfl|hb
  .exact h.1
  .exact gH (Fu h.2 b hb) h.1
theorem DY{s:Wk}{i:Ay}(h:(Ad i.op).d=0):Eu s i (Ad i.op)=s:=by unfold Eu;rw[if_neg (fun e=>e.1 h)]
theorem FU{S:List Nat}{i:Ay}{x:Nat}:x∈Dp S i↔x∈S\/((Ad i.op).d≠0/\x=i.d.toNat):=by
 unfold Dp;by_cases h:(Ad i.op).d≠0/\i.d.toNat∉S
 .rw[if_pos h,List.mem_append];simp only[List.mem_singleton];exact⟨fun q=>q.imp id fun e=>⟨h.1,e⟩,fun q=>q.imp id fun e=>e.2⟩
 .rw[if_neg h];constructor
  .exact .inl
  .rintro(q|⟨q1,q2⟩)
   .exact q
   .rw[q2];exact Decidable.byContradiction fun e=>h ⟨q1,e⟩
def Bb(ps:List AX)(t:Ty):Int:=if t.kind≠3 then 1 else if Ae t.par ps.length=true then((ps[t.par.toNat]?).map fun p=>p.len).getD 0 else 0
def B7(c:Cd)(i:Ay):Int:=
 if i.op=16 then 62
 else if Aw i.op=true\/i.op=29\/i.op=30\/i.op=32 then Bb c.sign (Ak c.regs i.d)
 else if i.op=31\/i.op=33\/i.op=19\/i.op=20 then Bb c.sign (Ak c.regs i.a)
 else 1
def B0(c:Cd):List Ay->Int
 |[]=>0
 |i::l=>B7 c i+B0 c l
def BK(c:Cd):Int:=B0 c c.list
def BB(c:Cd):Int:=(c.regs.map fun t=>Bb c.sign t).sum+(c.slots.map fun s=>Bb c.sign s.ty).sum
theorem E1(c:Cd):∀l m:List Ay,B0 c (l++m)=B0 c l+B0 c m
 |[],m=>by simp[B0]
 |i::l,m=>by simp only[List.cons_append,B0,E1 c l m];omega
theorem Am{n:Int}{k:Nat}:Ae n k=true↔0<=n/\n<(k:Int):=by unfold Ae;simp
theorem IL{ps:List AX}(h:Ar ps=0):∀p∈ps,AW p=true:=by
 unfold Ar at h;split at h
 .exact absurd h dE
 .split at h
  .exact absurd h dE
  .rename_i h2;intro p hp;have h3:ps.all AW=true:=by simpa using h2
   exact List.all_eq_true.1 h3 p hp
theorem Jb{p:AX}(h:AW p=true):1<=p.len/\p.len<=4096:=by
 unfold AW at h;simp only[Bool.and_eq_true,decide_eq_true_eq]at h;exact h.2
theorem Es{ps:List AX}{t:Ty}(hs:Ar ps=0)(ht:An t ps.length=true):1<=Bb ps t/\Bb ps t<=4096:=by
 unfold Bb;by_cases h3:t.kind=3
 .rw[if_neg (by simp[h3])];unfold An at ht;rw[if_neg oM,if_pos h3]at ht;rw[if_pos ht];obtain⟨h0,h1⟩:=Am.1 ht;have hl:t.par.toNat<ps.length:=oM;rw[gB hl];exact Jb (IL hs _ (gD hl))
 .rw[if_pos h3];omega
theorem EM{c:Cd}{n:Int}(ht:Af c=true)(hn:Ae n c.regs.length=true):An (Ak c.regs n) c.sign.length=true:=by
 obtain⟨h0,h1⟩:=Am.1 hn;have hl:n.toNat<c.regs.length:=oM;unfold Ak;rw[if_pos hn,gB hl];exact List.all_eq_true.1 ht _ (gD hl)
theorem Eh{rs:List Ty}{l n:Int}{m:Ty}(h:Ab rs l n m=true)(hl:l≠0):Ae n rs.length=true:=by
 unfold Ab at h;rw[if_neg hl]at h;simp only[Bool.and_eq_true]at h;exact h.1
theorem Iv:∀n:Nat,n<38->(Aw (n:Int)=true\/(n:Int)=29\/(n:Int)=30\/(n:Int)=32)->(Ad (n:Int)).d≠0:=by decide+kernel
theorem Iu:∀n:Nat,n<38->((n:Int)=31\/(n:Int)=33\/(n:Int)=19\/(n:Int)=20)->(Ad (n:Int)).a≠0:=by decide+kernel
structure Tk(c:Cd)(s:Wk)(i:Ay):Prop where
 known:1<=i.op/\i.op<=37
 d:Ab c.regs (Ad i.op).d i.d (Ao c.regs i (Ad i.op))=true
 a:Ab c.regs (Ad i.op).a i.a (Ao c.regs i (Ad i.op))=true
 b:Ab c.regs (Ad i.op).b i.b (Ao c.regs i (Ad i.op))=true
 e:Ab c.regs (Ad i.op).c i.c (Ao c.regs i (Ad i.op))=true
 n:B8 c i (Ad i.op).n (Ao c.regs i (Ad i.op))=true
 stand:At c s i (Ad i.op)=true
 read:Db s i (Ad i.op)=true
theorem IT{c:Cd}{s:Wk}{i:Ay}:AI c s i=true↔Tk c s i:=by
 unfold AI AN Aq;simp only[Bool.and_eq_true,decide_eq_true_eq];exact⟨fun⟨k,⟨d,a,b,e,n⟩,st,r⟩=>⟨k,d,a,b,e,n,st,r⟩,fun h=>⟨h.known,⟨h.d,h.a,h.b,h.e,h.n⟩,h.stand,h.read⟩⟩
theorem Kj{c:Cd}{s:Wk}{i:Ay}(hs:Ar c.sign=0)(ht:Af c=true)(h:Tk c s i):1<=B7 c i/\B7 c i<=4096:=by
 obtain⟨N,hN⟩:∃N:Nat,i.op=(N:Int):=⟨i.op.toNat,by have:=h.known;omega⟩
 have hN2:N<38:=by have:=h.known;omega
 unfold B7;by_cases h1:i.op=16
 .rw[if_pos h1];omega
 .rw[if_neg h1];by_cases h2:Aw i.op=true\/i.op=29\/i.op=30\/i.op=32
  .rw[if_pos h2];refine Es hs (EM ht (Eh h.d ?_));rw[hN]at h2 |-;exact Iv N hN2 h2
  .rw[if_neg h2];by_cases h3:i.op=31\/i.op=33\/i.op=19\/i.op=20
   .rw[if_pos h3];refine Es hs (EM ht (Eh h.a ?_));rw[hN]at h3 |-;exact Iu N hN2 h3
   .rw[if_neg h3];omega
theorem Eb{c:Cd}(hs:Ar c.sign=0)(ht:Af c=true):∀ (l:List Ay) (s:Wk),BU c s l=true->∀i∈l,1<=B7 c i/\B7 c i<=4096
 |[],s,_,i,hi=>by cases hi
 |j::l,s,h,i,hi=>by
  simp only[BU,Bool.and_eq_true]at h;rcases List.mem_cons.1 hi with e|e
  .rw[e];exact Kj hs ht (IT.1 h.1)
  .exact Eb hs ht l _ h.2 i e
structure Ah(c:Cd):Prop where
 sign:Ar c.sign=0
 regs:c.regs.length<=16384
 list:c.list.length<=32768
 slots:c.slots.length<=4096
 types:Af c=true
 begun:AK c=true
theorem Cb{c:Cd}:B3 c=0↔Ah c:=by
 unfold B3;by_cases h0:Ar c.sign=0
 .rw[if_neg (by simp[h0])];by_cases h1:16384<c.regs.length\/32768<c.list.length
  .rw[if_pos h1];exact⟨fun h=>absurd h dE,fun h=>by have:=h.regs;have:=h.list;omega⟩
  .rw[if_neg h1];by_cases h2:4096<c.slots.length
   .rw[if_pos h2];exact⟨fun h=>absurd h dE,fun h=>by have:=h.slots;omega⟩
   .rw[if_neg h2];by_cases h3:(Af c&&AK c)=true
    .rw[if_pos h3];simp only[Bool.and_eq_true]at h3;exact⟨fun _=>⟨h0,oM,oM,oM,h3.1,h3.2⟩,fun _=>rfl⟩
    .rw[if_neg h3];exact⟨fun h=>absurd h dE,fun h=>absurd (by rw[h.types,h.begun];rfl) h3⟩
 .rw[if_pos h0];exact⟨fun h=>absurd h h0,fun h=>absurd h.sign h0⟩
theorem DN{c:Cd}(hc:(Ai c).1=0):∀i∈c.list,1<=B7 c i/\B7 c i<=4096:=by
 obtain⟨h1,h2,h3⟩:=AY.1 hc;have hA:=Cb.1 h1;exact Eb hA.sign hA.types c.list _ h2
theorem EB{c:Cd}:∀ (l:List Ay),(∀i∈l,1<=B7 c i/\B7 c i<=4096)->(l.length:Int)<=B0 c l/\B0 c l<=4096*(l.length:Int)
 |[],_=>by simp[B0]
 |i::l,h=>by
  have h1:=h i sM;have h2:=EB l (fun j hj=>h j (List.mem_cons_of_mem _ hj));simp only[B0,List.length_cons];omega
end Go.Proofs.Ytheanilpbnencaa
