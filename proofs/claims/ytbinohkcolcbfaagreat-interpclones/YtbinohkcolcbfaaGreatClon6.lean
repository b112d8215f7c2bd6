import Derived.Test.YtbinohkcolcbfaaGreatClon2
import Derived.Test.YtbinohkcolcbfaaGreatClon1
namespace Go.Proofs.YtbinohkcolcbfaaGreat
open Go.RowKit Go.Proofs.Tryz
set_option linter.all false
set_option maxRecDepth 100000
set_option maxHeartbeats 16000000
theorem Uw(w:World):Calls prog 53 #[.int .i64 22] w fun e w'=>e=.returned (.tuple #[Dh (A6 22),.bool true])/\Below w.heap.size w w':=by
 exact EW
theorem Ux(w:World):Calls prog 53 #[.int .i64 23] w fun e w'=>e=.returned (.tuple #[Dh (A6 23),.bool true])/\Below w.heap.size w w':=by
 exact EW
theorem Uy(w:World):Calls prog 53 #[.int .i64 24] w fun e w'=>e=.returned (.tuple #[Dh (A6 24),.bool true])/\Below w.heap.size w w':=by
 exact EW
theorem Uz(w:World):Calls prog 53 #[.int .i64 25] w fun e w'=>e=.returned (.tuple #[Dh (A6 25),.bool true])/\Below w.heap.size w w':=by
 exact EW
theorem UA(w:World):Calls prog 53 #[.int .i64 26] w fun e w'=>e=.returned (.tuple #[Dh (A6 26),.bool true])/\Below w.heap.size w w':=by
 exact EW
theorem UC(w:World):Calls prog 53 #[.int .i64 27] w fun e w'=>e=.returned (.tuple #[Dh (A6 27),.bool true])/\Below w.heap.size w w':=by
 exact EW
theorem UD(w:World):Calls prog 53 #[.int .i64 28] w fun e w'=>e=.returned (.tuple #[Dh (A6 28),.bool true])/\Below w.heap.size w w':=by
 exact EW
theorem UE(w:World):Calls prog 53 #[.int .i64 29] w fun e w'=>e=.returned (.tuple #[Dh (A6 29),.bool true])/\Below w.heap.size w w':=by
 exact EW
theorem Qf(w:World):Calls prog 67 #[.int .i64 30] w fun e w'=>e=.returned (.tuple #[.string ⟨#[118,45,45,45,112]⟩,.bool true])/\w'=w:=by
 exact EX
theorem Qg(w:World):Calls prog 67 #[.int .i64 31] w fun e w'=>e=.returned (.tuple #[.string ⟨#[45,118,45,45,112]⟩,.bool true])/\w'=w:=by
 exact EX
theorem Qh(w:World):Calls prog 67 #[.int .i64 32] w fun e w'=>e=.returned (.tuple #[.string ⟨#[97,45,45,45,115]⟩,.bool true])/\w'=w:=by
 exact EX
theorem Qi(w:World):Calls prog 67 #[.int .i64 33] w fun e w'=>e=.returned (.tuple #[.string ⟨#[45,97,45,45,115]⟩,.bool true])/\w'=w:=by
 exact EX
theorem Qj(w:World):Calls prog 67 #[.int .i64 34] w fun e w'=>e=.returned (.tuple #[.string ⟨#[45,119,45,45,45]⟩,.bool true])/\w'=w:=by
 exact EX
theorem Qk(w:World):Calls prog 67 #[.int .i64 35] w fun e w'=>e=.returned (.tuple #[.string ⟨#[45,45,45,45,45]⟩,.bool true])/\w'=w:=by
 exact EX
theorem Ql(w:World):Calls prog 67 #[.int .i64 36] w fun e w'=>e=.returned (.tuple #[.string ⟨#[45,45,45,45,113]⟩,.bool true])/\w'=w:=by
 exact EX
theorem Qm(w:World):Calls prog 67 #[.int .i64 37] w fun e w'=>e=.returned (.tuple #[.string ⟨#[45,45,45,45,45]⟩,.bool true])/\w'=w:=by
 exact EX
theorem Q7(w:World):Calls prog 67 #[.int .i64 22] w fun e w'=>e=.returned (.tuple #[.string ⟨#[119,119,119,45,45]⟩,.bool true])/\w'=w:=by
 exact EX
theorem Q8(w:World):Calls prog 67 #[.int .i64 23] w fun e w'=>e=.returned (.tuple #[.string ⟨#[119,119,119,45,45]⟩,.bool true])/\w'=w:=by
 exact EX
theorem Q9(w:World):Calls prog 67 #[.int .i64 24] w fun e w'=>e=.returned (.tuple #[.string ⟨#[119,119,119,45,45]⟩,.bool true])/\w'=w:=by
 exact EX
theorem Qa(w:World):Calls prog 67 #[.int .i64 25] w fun e w'=>e=.returned (.tuple #[.string ⟨#[119,119,45,45,45]⟩,.bool true])/\w'=w:=by
 exact EX
theorem Qb(w:World):Calls prog 67 #[.int .i64 26] w fun e w'=>e=.returned (.tuple #[.string ⟨#[119,119,119,119,45]⟩,.bool true])/\w'=w:=by
 exact EX
theorem Qc(w:World):Calls prog 67 #[.int .i64 27] w fun e w'=>e=.returned (.tuple #[.string ⟨#[119,119,119,45,45]⟩,.bool true])/\w'=w:=by
 exact EX
theorem Qd(w:World):Calls prog 67 #[.int .i64 28] w fun e w'=>e=.returned (.tuple #[.string ⟨#[119,119,119,45,45]⟩,.bool true])/\w'=w:=by
 exact EX
theorem Qe(w:World):Calls prog 67 #[.int .i64 29] w fun e w'=>e=.returned (.tuple #[.string ⟨#[118,45,45,45,112]⟩,.bool true])/\w'=w:=by
 exact EX
theorem PU(w:World):Calls prog 67 #[.int .i64 13] w fun e w'=>e=.returned (.tuple #[.string ⟨#[100,120,45,45,45]⟩,.bool true])/\w'=w:=by
 exact EX
theorem PV(w:World):Calls prog 67 #[.int .i64 14] w fun e w'=>e=.returned (.tuple #[.string ⟨#[100,120,45,45,45]⟩,.bool true])/\w'=w:=by
 exact EX
theorem PX(w:World):Calls prog 67 #[.int .i64 15] w fun e w'=>e=.returned (.tuple #[.string ⟨#[100,120,120,120,45]⟩,.bool true])/\w'=w:=by
 exact EX
theorem PY(w:World):Calls prog 67 #[.int .i64 16] w fun e w'=>e=.returned (.tuple #[.string ⟨#[110,110,119,45,45]⟩,.bool true])/\w'=w:=by
 exact EX
theorem PZ(w:World):Calls prog 67 #[.int .i64 17] w fun e w'=>e=.returned (.tuple #[.string ⟨#[110,119,45,45,45]⟩,.bool true])/\w'=w:=by
 exact EX
theorem Q0(w:World):Calls prog 67 #[.int .i64 18] w fun e w'=>e=.returned (.tuple #[.string ⟨#[119,110,45,45,45]⟩,.bool true])/\w'=w:=by
 exact EX
theorem Q4(w:World):Calls prog 67 #[.int .i64 19] w fun e w'=>e=.returned (.tuple #[.string ⟨#[110,118,45,45,45]⟩,.bool true])/\w'=w:=by
 exact EX
theorem Q5(w:World):Calls prog 67 #[.int .i64 20] w fun e w'=>e=.returned (.tuple #[.string ⟨#[110,118,45,45,45]⟩,.bool true])/\w'=w:=by
 exact EX
theorem Q6(w:World):Calls prog 67 #[.int .i64 21] w fun e w'=>e=.returned (.tuple #[.string ⟨#[119,119,45,45,45]⟩,.bool true])/\w'=w:=by
 exact EX
def Vd:Wk->List Au->Wk
 |s,[]=>s
 |s,i::r=>Vd (Aq s i) r
def Cr(c:Cd):Wk->List Au->Bool
 |_,[]=>true
 |s,i::r=>AQ c s i&&Cr c (Aq s i) r
theorem Tp{c:Cd}:∀ {l:List Au} {s:Wk} {k:Nat},(Jd c s k l).1=0↔Cr c s l=true/\(Vd s l).opens.isEmpty=true
 |[],s,k=>by
  simp only[Jd,Cr,Vd,true_and];by_cases h:s.opens.isEmpty=true
  ·simp[h]
  ·simp[h]
 |i::l,s,k=>by
  simp only[Jd,Cr,Vd,Bool.and_eq_true];by_cases h:AQ c s i=true
  ·rw[if_pos h,Tp (k:=k+1)];simp[h]
  ·rw[if_neg h];simp[h]
theorem Jw{c:Cd}:(Ar c).1=0↔Cb c=0/\Cr c ⟨[],[]⟩ c.list=true/\(Vd ⟨[],[]⟩ c.list).opens.isEmpty=true:=by
 unfold Ar;by_cases h:Cb c=0
 ·rw[if_neg (by simp[h]),Tp];simp[h]
 ·rw[if_pos h];simp[h]
def Hx(S:List Nat)(i:Au):List Nat:=if(A6 i.op).d≠0/\i.d.toNat∉S then S++[i.d.toNat]else S
theorem OB:∀ {r:List Bk} {n:Nat},Za n r->∀b∈r,b.ahead<=n
 |[],_,_,b,hb=>absurd hb sM
 |a::r,n,h,b,hb=>by
  rcases List.mem_cons.1 hb with rfl|hb
  ·exact h.1
  ·exact Nat.le_trans (OB h.2 b hb) h.1
theorem Jr{s:Wk}{i:Au}(h:(A6 i.op).d=0):FJ s i (A6 i.op)=s:=by unfold FJ;rw[if_neg (fun e=>e.1 h)]
theorem PA{S:List Nat}{i:Au}{x:Nat}:x∈Hx S i↔x∈S\/((A6 i.op).d≠0/\x=i.d.toNat):=by
 unfold Hx;by_cases h:(A6 i.op).d≠0/\i.d.toNat∉S
 ·rw[if_pos h,List.mem_append];simp only[List.mem_singleton];exact⟨fun q=>q.imp id fun e=>⟨h.1,e⟩,fun q=>q.imp id fun e=>e.2⟩
 ·rw[if_neg h];constructor
  ·exact .inl
  ·rintro(q|⟨q1,q2⟩)
   ·exact q
   ·rw[q2];exact Decidable.byContradiction fun e=>h ⟨q1,e⟩
def upd(f:Nat->Bool)(n:Nat)(b:Bool)(m:Nat):Bool:=if m=n then b else f m
end Go.Proofs.YtbinohkcolcbfaaGreat
