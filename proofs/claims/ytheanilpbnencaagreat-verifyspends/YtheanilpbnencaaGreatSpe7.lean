import Derived.Test.YtheanilpbnencaaGreatSpe2
import Derived.Test.YtheanilpbnencaaGreatRows
import Derived.WalkKit
import Derived.WalkSpells
import Derived.WalkLawsBesides
import Derived.Maps.OwnSet
import Derived.Maps.OwnOps
import Derived.Maps.Ext
import Derived.Test.YtheanilpbnencaaGreatSpe1
namespace Go.Proofs.YtheanilpbnencaaGreat
open Go.RowKit Go.Proofs.Tryz
set_option linter.all false
set_option maxRecDepth 100000
set_option maxHeartbeats 16000000
theorem Um(w:World):Calls prog 48 #[.int .i64 1] w fun e w'=>e=.returned (.tuple #[CM (A5 1),.bool true])/\Below w.heap.size w w':=by
 exact Ea
theorem Uo(w:World):Calls prog 48 #[.int .i64 2] w fun e w'=>e=.returned (.tuple #[CM (A5 2),.bool true])/\Below w.heap.size w w':=by
 exact Ea
theorem Uq(w:World):Calls prog 48 #[.int .i64 3] w fun e w'=>e=.returned (.tuple #[CM (A5 3),.bool true])/\Below w.heap.size w w':=by
 exact Ea
theorem Ur(w:World):Calls prog 48 #[.int .i64 4] w fun e w'=>e=.returned (.tuple #[CM (A5 4),.bool true])/\Below w.heap.size w w':=by
 exact Ea
theorem Us(w:World):Calls prog 48 #[.int .i64 5] w fun e w'=>e=.returned (.tuple #[CM (A5 5),.bool true])/\Below w.heap.size w w':=by
 exact Ea
theorem Ut(w:World):Calls prog 48 #[.int .i64 6] w fun e w'=>e=.returned (.tuple #[CM (A5 6),.bool true])/\Below w.heap.size w w':=by
 exact Ea
theorem Uu(w:World):Calls prog 48 #[.int .i64 7] w fun e w'=>e=.returned (.tuple #[CM (A5 7),.bool true])/\Below w.heap.size w w':=by
 exact Ea
theorem Uv(w:World):Calls prog 48 #[.int .i64 8] w fun e w'=>e=.returned (.tuple #[CM (A5 8),.bool true])/\Below w.heap.size w w':=by
 exact Ea
theorem Uw(w:World):Calls prog 48 #[.int .i64 9] w fun e w'=>e=.returned (.tuple #[CM (A5 9),.bool true])/\Below w.heap.size w w':=by
 exact Ea
theorem R4(w:World):Calls prog 48 #[.int .i64 10] w fun e w'=>e=.returned (.tuple #[CM (A5 10),.bool true])/\Below w.heap.size w w':=by
 exact Ea
theorem R5(w:World):Calls prog 48 #[.int .i64 11] w fun e w'=>e=.returned (.tuple #[CM (A5 11),.bool true])/\Below w.heap.size w w':=by
 exact Ea
theorem R6(w:World):Calls prog 48 #[.int .i64 12] w fun e w'=>e=.returned (.tuple #[CM (A5 12),.bool true])/\Below w.heap.size w w':=by
 exact Ea
theorem R7(w:World):Calls prog 48 #[.int .i64 13] w fun e w'=>e=.returned (.tuple #[CM (A5 13),.bool true])/\Below w.heap.size w w':=by
 exact Ea
theorem R8(w:World):Calls prog 48 #[.int .i64 14] w fun e w'=>e=.returned (.tuple #[CM (A5 14),.bool true])/\Below w.heap.size w w':=by
 exact Ea
theorem R9(w:World):Calls prog 48 #[.int .i64 15] w fun e w'=>e=.returned (.tuple #[CM (A5 15),.bool true])/\Below w.heap.size w w':=by
 exact Ea
theorem Ra(w:World):Calls prog 48 #[.int .i64 16] w fun e w'=>e=.returned (.tuple #[CM (A5 16),.bool true])/\Below w.heap.size w w':=by
 exact Ea
theorem Rb(w:World):Calls prog 48 #[.int .i64 17] w fun e w'=>e=.returned (.tuple #[CM (A5 17),.bool true])/\Below w.heap.size w w':=by
 exact Ea
theorem Rc(w:World):Calls prog 48 #[.int .i64 18] w fun e w'=>e=.returned (.tuple #[CM (A5 18),.bool true])/\Below w.heap.size w w':=by
 exact Ea
theorem Re(w:World):Calls prog 48 #[.int .i64 19] w fun e w'=>e=.returned (.tuple #[CM (A5 19),.bool true])/\Below w.heap.size w w':=by
 exact Ea
theorem Rf(w:World):Calls prog 48 #[.int .i64 20] w fun e w'=>e=.returned (.tuple #[CM (A5 20),.bool true])/\Below w.heap.size w w':=by
 exact Ea
theorem Rg(w:World):Calls prog 48 #[.int .i64 21] w fun e w'=>e=.returned (.tuple #[CM (A5 21),.bool true])/\Below w.heap.size w w':=by
 exact Ea
theorem Rq(w:World):Calls prog 48 #[.int .i64 30] w fun e w'=>e=.returned (.tuple #[CM (A5 30),.bool true])/\Below w.heap.size w w':=by
 exact Ea
theorem Rr(w:World):Calls prog 48 #[.int .i64 31] w fun e w'=>e=.returned (.tuple #[CM (A5 31),.bool true])/\Below w.heap.size w w':=by
 exact Ea
theorem Rs(w:World):Calls prog 48 #[.int .i64 32] w fun e w'=>e=.returned (.tuple #[CM (A5 32),.bool true])/\Below w.heap.size w w':=by
 exact Ea
theorem Rt(w:World):Calls prog 48 #[.int .i64 33] w fun e w'=>e=.returned (.tuple #[CM (A5 33),.bool true])/\Below w.heap.size w w':=by
 exact Ea
theorem Ru(w:World):Calls prog 48 #[.int .i64 34] w fun e w'=>e=.returned (.tuple #[CM (A5 34),.bool true])/\Below w.heap.size w w':=by
 exact Ea
theorem Rv(w:World):Calls prog 48 #[.int .i64 35] w fun e w'=>e=.returned (.tuple #[CM (A5 35),.bool true])/\Below w.heap.size w w':=by
 exact Ea
theorem Rx(w:World):Calls prog 48 #[.int .i64 36] w fun e w'=>e=.returned (.tuple #[CM (A5 36),.bool true])/\Below w.heap.size w w':=by
 exact Ea
theorem Ry(w:World):Calls prog 48 #[.int .i64 37] w fun e w'=>e=.returned (.tuple #[CM (A5 37),.bool true])/\Below w.heap.size w w':=by
 exact Ea
theorem NQ(w:World):Calls prog 62 #[.int .i64 22] w fun e w'=>e=.returned (.tuple #[.string ⟨#[119,119,119,45,45]⟩,.bool true])/\w'=w:=by
 exact Eb
theorem NR(w:World):Calls prog 62 #[.int .i64 23] w fun e w'=>e=.returned (.tuple #[.string ⟨#[119,119,119,45,45]⟩,.bool true])/\w'=w:=by
 exact Eb
theorem NS(w:World):Calls prog 62 #[.int .i64 24] w fun e w'=>e=.returned (.tuple #[.string ⟨#[119,119,119,45,45]⟩,.bool true])/\w'=w:=by
 exact Eb
theorem NT(w:World):Calls prog 62 #[.int .i64 25] w fun e w'=>e=.returned (.tuple #[.string ⟨#[119,119,45,45,45]⟩,.bool true])/\w'=w:=by
 exact Eb
theorem NU(w:World):Calls prog 62 #[.int .i64 26] w fun e w'=>e=.returned (.tuple #[.string ⟨#[119,119,119,119,45]⟩,.bool true])/\w'=w:=by
 exact Eb
theorem NV(w:World):Calls prog 62 #[.int .i64 27] w fun e w'=>e=.returned (.tuple #[.string ⟨#[119,119,119,45,45]⟩,.bool true])/\w'=w:=by
 exact Eb
theorem NY(w:World):Calls prog 62 #[.int .i64 28] w fun e w'=>e=.returned (.tuple #[.string ⟨#[119,119,119,45,45]⟩,.bool true])/\w'=w:=by
 exact Eb
theorem NZ(w:World):Calls prog 62 #[.int .i64 29] w fun e w'=>e=.returned (.tuple #[.string ⟨#[118,45,45,45,112]⟩,.bool true])/\w'=w:=by
 exact Eb
theorem NG(w:World):Calls prog 62 #[.int .i64 13] w fun e w'=>e=.returned (.tuple #[.string ⟨#[100,120,45,45,45]⟩,.bool true])/\w'=w:=by
 exact Eb
theorem NH(w:World):Calls prog 62 #[.int .i64 14] w fun e w'=>e=.returned (.tuple #[.string ⟨#[100,120,45,45,45]⟩,.bool true])/\w'=w:=by
 exact Eb
theorem NI(w:World):Calls prog 62 #[.int .i64 15] w fun e w'=>e=.returned (.tuple #[.string ⟨#[100,120,120,120,45]⟩,.bool true])/\w'=w:=by
 exact Eb
theorem NJ(w:World):Calls prog 62 #[.int .i64 16] w fun e w'=>e=.returned (.tuple #[.string ⟨#[110,110,119,45,45]⟩,.bool true])/\w'=w:=by
 exact Eb
theorem NK(w:World):Calls prog 62 #[.int .i64 17] w fun e w'=>e=.returned (.tuple #[.string ⟨#[110,119,45,45,45]⟩,.bool true])/\w'=w:=by
 exact Eb
theorem NL(w:World):Calls prog 62 #[.int .i64 18] w fun e w'=>e=.returned (.tuple #[.string ⟨#[119,110,45,45,45]⟩,.bool true])/\w'=w:=by
 exact Eb
theorem NM(w:World):Calls prog 62 #[.int .i64 19] w fun e w'=>e=.returned (.tuple #[.string ⟨#[110,118,45,45,45]⟩,.bool true])/\w'=w:=by
 exact Eb
theorem NO(w:World):Calls prog 62 #[.int .i64 20] w fun e w'=>e=.returned (.tuple #[.string ⟨#[110,118,45,45,45]⟩,.bool true])/\w'=w:=by
 exact Eb
theorem NP(w:World):Calls prog 62 #[.int .i64 21] w fun e w'=>e=.returned (.tuple #[.string ⟨#[119,119,45,45,45]⟩,.bool true])/\w'=w:=by
 exact Eb
theorem FO{k:IntKind}{a b:Int}(h:a=b):Ending.returned (.int k a)=.returned (.int k b):=by rw[h]
theorem Uj(a:Int)(h0:0<=a)(h1:a<4294967296)(w:World):
 Calls prog 63 #[.int .i64 a] w fun e w'=>e=.returned (.bool (nan a))/\w'=w:=by
 go_enter func63,ntmps63;go_wp2;go_ret;exact⟨rfl,rfl⟩
theorem DY(a:Int)(h0:0<=a)(h1:a<4294967296)(w:World):
 Calls prog 35 #[.int .i64 a] w fun e w'=>e=.returned (.int .i64 (A9 a))/\w'=w:=by
 cases hn:nan a
 .have hc:A9 a=a:=by unfold A9;simp[hn]
  exact YW
 .have hc:A9 a=2143289344:=by unfold A9;simp[hn]
  exact YW
def S1:Wk->List Am->Wk
 |s,[]=>s
 |s,i::r=>S1 (Al s i) r
def Ca(c:Cd):Wk->List Am->Bool
 |_,[]=>true
 |s,i::r=>AF c s i&&Ca c (Al s i) r
theorem Qt{c:Cd}:∀ {l:List Am} {s:Wk} {k:Nat},(In c s k l).1=0↔Ca c s l=true/\(S1 s l).opens.isEmpty=true
 |[],s,k=>by
  simp only[In,Ca,S1,true_and];by_cases h:s.opens.isEmpty=true
  .simp[h]
  .simp[h]
 |i::l,s,k=>by
  simp only[In,Ca,S1,Bool.and_eq_true];by_cases h:AF c s i=true
  .rw[if_pos h,Qt (k:=k+1)];simp[h]
  .rw[if_neg h];simp[h]
theorem BF{c:Cd}:(Ag c).1=0↔BJ c=0/\Ca c ⟨[],[]⟩ c.list=true/\(S1 ⟨[],[]⟩ c.list).opens.isEmpty=true:=by
 unfold Ag;by_cases h:BJ c=0
 .rw[if_neg (by simp[h]),Qt];simp[h]
 .rw[if_pos h];simp[h]
def GM(S:List Nat)(i:Am):List Nat:=if(A5 i.op).d≠0/\i.d.toNat∉S then S++[i.d.toNat]else S
theorem Mp:∀ {r:List Bk} {n:Nat},Vv n r->∀b∈r,b.ahead<=n
 |[],_,_,b,hb=>absurd hb sM
 |a::r,n,h,b,hb=>by
  rcases List.mem_cons.1 hb with rfl|hb
  .exact h.1
  .exact gH (Mp h.2 b hb) h.1
theorem Iu{s:Wk}{i:Am}(h:(A5 i.op).d=0):F7 s i (A5 i.op)=s:=by unfold F7;rw[if_neg (fun e=>e.1 h)]
theorem Nl{S:List Nat}{i:Am}{x:Nat}:x∈GM S i↔x∈S\/((A5 i.op).d≠0/\x=i.d.toNat):=by
 unfold GM;by_cases h:(A5 i.op).d≠0/\i.d.toNat∉S
 .rw[if_pos h,List.mem_append];simp only[List.mem_singleton];exact⟨fun q=>q.imp id fun e=>⟨h.1,e⟩,fun q=>q.imp id fun e=>e.2⟩
 .rw[if_neg h];constructor
  .exact .inl
  .rintro(q|⟨q1,q2⟩)
   .exact q
   .rw[q2];exact Decidable.byContradiction fun e=>h ⟨q1,e⟩
section
open Go.Maps (Keyed)
end
def DM(ps:List Bd)(t:Ty):Int:=if t.kind≠3 then 1 else if Ab t.par ps.length=true then((ps[t.par.toNat]?).map fun p=>p.len).getD 0 else 0
def CI(c:Cd)(i:Am):Int:=
 if i.op=16 then 62
 else if As i.op=true\/i.op=29\/i.op=30\/i.op=32 then DM c.sign (A7 c.regs i.d)
 else if i.op=31\/i.op=33\/i.op=19\/i.op=20 then DM c.sign (A7 c.regs i.a)
 else 1
def Bw(c:Cd):List Am->Int
 |[]=>0
 |i::l=>CI c i+Bw c l
def Ed(c:Cd):Int:=Bw c c.list
def EM(c:Cd):Int:=(c.regs.map fun t=>DM c.sign t).sum+(c.slots.map fun s=>DM c.sign s.ty).sum
theorem Iz(c:Cd):∀l m:List Am,Bw c (l++m)=Bw c l+Bw c m
 |[],m=>by simp[Bw]
 |i::l,m=>by simp only[List.cons_append,Bw,Iz c l m];omega
theorem AR{n:Int}{k:Nat}:Ab n k=true↔0<=n/\n<(k:Int):=by unfold Ab;simp
theorem Sb{ps:List Bd}(h:Ay ps=0):∀p∈ps,B5 p=true:=by
 unfold Ay at h;split at h
 .exact absurd h dE
 .split at h
  .exact absurd h dE
  .rename_i h2;intro p hp;have h3:ps.all B5=true:=by simpa using h2
   exact List.all_eq_true.1 h3 p hp
theorem TJ{p:Bd}(h:B5 p=true):1<=p.len/\p.len<=4096:=by
 unfold B5 at h;simp only[Bool.and_eq_true,decide_eq_true_eq]at h;exact h.2
theorem JM{ps:List Bd}{t:Ty}(hs:Ay ps=0)(ht:Ak t ps.length=true):1<=DM ps t/\DM ps t<=4096:=by
 unfold DM;by_cases h3:t.kind=3
 .rw[if_neg (by simp[h3])];unfold Ak at ht;rw[if_neg oM,if_pos h3]at ht;rw[if_pos ht];obtain⟨h0,h1⟩:=AR.1 ht;have hl:t.par.toNat<ps.length:=oM;rw[gB hl];exact TJ (Sb hs _ (gD hl))
 .rw[if_pos h3];omega
theorem Kv{c:Cd}{n:Int}(ht:Ad c=true)(hn:Ab n c.regs.length=true):Ak (A7 c.regs n) c.sign.length=true:=by
 obtain⟨h0,h1⟩:=AR.1 hn;have hl:n.toNat<c.regs.length:=oM;unfold A7;rw[if_pos hn,gB hl];exact List.all_eq_true.1 ht _ (gD hl)
theorem Jh{rs:List Ty}{l n:Int}{m:Ty}(h:A8 rs l n m=true)(hl:l≠0):Ab n rs.length=true:=by
 unfold A8 at h;rw[if_neg hl]at h;simp only[Bool.and_eq_true]at h;exact h.1
theorem RC:∀n:Nat,n<38->(As (n:Int)=true\/(n:Int)=29\/(n:Int)=30\/(n:Int)=32)->(A5 (n:Int)).d≠0:=by decide+kernel
theorem Rz:∀n:Nat,n<38->((n:Int)=31\/(n:Int)=33\/(n:Int)=19\/(n:Int)=20)->(A5 (n:Int)).a≠0:=by decide+kernel
structure Tk(c:Cd)(s:Wk)(i:Am):Prop where
 known:1<=i.op/\i.op<=37
 d:A8 c.regs (A5 i.op).d i.d (Ap c.regs i (A5 i.op))=true
 a:A8 c.regs (A5 i.op).a i.a (Ap c.regs i (A5 i.op))=true
 b:A8 c.regs (A5 i.op).b i.b (Ap c.regs i (A5 i.op))=true
 e:A8 c.regs (A5 i.op).c i.c (Ap c.regs i (A5 i.op))=true
 n:AV c i (A5 i.op).n (Ap c.regs i (A5 i.op))=true
 stand:Au c s i (A5 i.op)=true
 read:EK s i (A5 i.op)=true
theorem Sn{c:Cd}{s:Wk}{i:Am}:AF c s i=true↔Tk c s i:=by
 unfold AF B0 An;simp only[Bool.and_eq_true,decide_eq_true_eq];exact⟨fun⟨k,⟨d,a,b,e,n⟩,st,r⟩=>⟨k,d,a,b,e,n,st,r⟩,fun h=>⟨h.known,⟨h.d,h.a,h.b,h.e,h.n⟩,h.stand,h.read⟩⟩
theorem VU{c:Cd}{s:Wk}{i:Am}(hs:Ay c.sign=0)(ht:Ad c=true)(h:Tk c s i):1<=CI c i/\CI c i<=4096:=by
 obtain⟨N,hN⟩:∃N:Nat,i.op=(N:Int):=⟨i.op.toNat,by have:=h.known;omega⟩
 have hN2:N<38:=by have:=h.known;omega
 unfold CI;by_cases h1:i.op=16
 .rw[if_pos h1];omega
 .rw[if_neg h1];by_cases h2:As i.op=true\/i.op=29\/i.op=30\/i.op=32
  .rw[if_pos h2];refine JM hs (Kv ht (Jh h.d ?_));rw[hN]at h2 |-;exact RC N hN2 h2
  .rw[if_neg h2];by_cases h3:i.op=31\/i.op=33\/i.op=19\/i.op=20
   .rw[if_pos h3];refine JM hs (Kv ht (Jh h.a ?_));rw[hN]at h3 |-;exact Rz N hN2 h3
   .rw[if_neg h3];omega
theorem J4{c:Cd}(hs:Ay c.sign=0)(ht:Ad c=true):∀ (l:List Am) (s:Wk),Ca c s l=true->∀i∈l,1<=CI c i/\CI c i<=4096
 |[],s,_,i,hi=>by cases hi
 |j::l,s,h,i,hi=>by
  simp only[Ca,Bool.and_eq_true]at h;rcases List.mem_cons.1 hi with e|e
  .rw[e];exact VU hs ht (Sn.1 h.1)
  .exact J4 hs ht l _ h.2 i e
structure Ah(c:Cd):Prop where
 sign:Ay c.sign=0
 regs:c.regs.length<=16384
 list:c.list.length<=32768
 slots:c.slots.length<=4096
 types:Ad c=true
 begun:AW c=true
theorem Fm{c:Cd}:BJ c=0↔Ah c:=by
 unfold BJ;by_cases h0:Ay c.sign=0
 .rw[if_neg (by simp[h0])];by_cases h1:16384<c.regs.length\/32768<c.list.length
  .rw[if_pos h1];exact⟨fun h=>absurd h dE,fun h=>by have:=h.regs;have:=h.list;omega⟩
  .rw[if_neg h1];by_cases h2:4096<c.slots.length
   .rw[if_pos h2];exact⟨fun h=>absurd h dE,fun h=>by have:=h.slots;omega⟩
   .rw[if_neg h2];by_cases h3:(Ad c&&AW c)=true
    .rw[if_pos h3];simp only[Bool.and_eq_true]at h3;exact⟨fun _=>⟨h0,oM,oM,oM,h3.1,h3.2⟩,fun _=>rfl⟩
    .rw[if_neg h3];exact⟨fun h=>absurd h dE,fun h=>absurd (by rw[h.types,h.begun];rfl) h3⟩
 .rw[if_pos h0];exact⟨fun h=>absurd h h0,fun h=>absurd h.sign h0⟩
theorem DK{c:Cd}(hc:(Ag c).1=0):∀i∈c.list,1<=CI c i/\CI c i<=4096:=by
 obtain⟨h1,h2,h3⟩:=BF.1 hc;have hA:=Fm.1 h1;exact J4 hA.sign hA.types c.list _ h2
theorem Ha{c:Cd}:∀ (l:List Am),(∀i∈l,1<=CI c i/\CI c i<=4096)->(l.length:Int)<=Bw c l/\Bw c l<=4096*(l.length:Int)
 |[],_=>by simp[Bw]
 |i::l,h=>by
  have h1:=h i sM;have h2:=Ha l (fun j hj=>h j (List.mem_cons_of_mem _ hj));simp only[Bw,List.length_cons];omega
structure Rk where
 by_:Am
 of_:Ty
 deriving DecidableEq
structure RW where
 ins:Nat->Nat
 hold:Rk->Option Nat
 reck:List Rk
 opn:List Nat
 left:List Am
end Go.Proofs.YtheanilpbnencaaGreat
