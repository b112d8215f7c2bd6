import Derived.Test.YtnbccaicijcklaaTks2
import Derived.Maps.OwnSet
import Derived.Maps.OwnOps
import Derived.Maps.Ext
import Derived.Test.YtnbccaicijcklaaTks1
namespace Go.Proofs.Ytnbccaicijcklaa
open Go.RowKit Go.Proofs.Try
set_option linter.all false
set_option maxRecDepth 100000
set_option maxHeartbeats 16000000
theorem MR(w:World):Calls prog 41 #[.int .i64 13] w fun e w'=>e=.returned (.tuple #[Cg (A4 13),.bool true])/\Below w.heap.size w w':=by
 exact Dq
theorem MS(w:World):Calls prog 41 #[.int .i64 14] w fun e w'=>e=.returned (.tuple #[Cg (A4 14),.bool true])/\Below w.heap.size w w':=by
 exact Dq
theorem MT(w:World):Calls prog 41 #[.int .i64 15] w fun e w'=>e=.returned (.tuple #[Cg (A4 15),.bool true])/\Below w.heap.size w w':=by
 exact Dq
theorem MU(w:World):Calls prog 41 #[.int .i64 16] w fun e w'=>e=.returned (.tuple #[Cg (A4 16),.bool true])/\Below w.heap.size w w':=by
 exact Dq
theorem MV(w:World):Calls prog 41 #[.int .i64 17] w fun e w'=>e=.returned (.tuple #[Cg (A4 17),.bool true])/\Below w.heap.size w w':=by
 exact Dq
theorem MX(w:World):Calls prog 41 #[.int .i64 18] w fun e w'=>e=.returned (.tuple #[Cg (A4 18),.bool true])/\Below w.heap.size w w':=by
 exact Dq
theorem MY(w:World):Calls prog 41 #[.int .i64 19] w fun e w'=>e=.returned (.tuple #[Cg (A4 19),.bool true])/\Below w.heap.size w w':=by
 exact Dq
theorem MZ(w:World):Calls prog 41 #[.int .i64 20] w fun e w'=>e=.returned (.tuple #[Cg (A4 20),.bool true])/\Below w.heap.size w w':=by
 exact Dq
theorem N4(w:World):Calls prog 41 #[.int .i64 21] w fun e w'=>e=.returned (.tuple #[Cg (A4 21),.bool true])/\Below w.heap.size w w':=by
 exact Dq
theorem K8(w:World):Calls prog 37 #[.int .i64 13] w fun e w'=>e=.returned (.tuple #[.string ⟨#[100,120,45,45,45]⟩,.bool true])/\w'=w:=by
 exact Dr
theorem K9(w:World):Calls prog 37 #[.int .i64 14] w fun e w'=>e=.returned (.tuple #[.string ⟨#[100,120,45,45,45]⟩,.bool true])/\w'=w:=by
 exact Dr
theorem Ka(w:World):Calls prog 37 #[.int .i64 15] w fun e w'=>e=.returned (.tuple #[.string ⟨#[100,120,120,120,45]⟩,.bool true])/\w'=w:=by
 exact Dr
theorem Kb(w:World):Calls prog 37 #[.int .i64 16] w fun e w'=>e=.returned (.tuple #[.string ⟨#[110,110,119,45,45]⟩,.bool true])/\w'=w:=by
 exact Dr
theorem Kc(w:World):Calls prog 37 #[.int .i64 17] w fun e w'=>e=.returned (.tuple #[.string ⟨#[110,119,45,45,45]⟩,.bool true])/\w'=w:=by
 exact Dr
theorem Ke(w:World):Calls prog 37 #[.int .i64 18] w fun e w'=>e=.returned (.tuple #[.string ⟨#[119,110,45,45,45]⟩,.bool true])/\w'=w:=by
 exact Dr
theorem Kf(w:World):Calls prog 37 #[.int .i64 19] w fun e w'=>e=.returned (.tuple #[.string ⟨#[110,118,45,45,45]⟩,.bool true])/\w'=w:=by
 exact Dr
theorem Kg(w:World):Calls prog 37 #[.int .i64 20] w fun e w'=>e=.returned (.tuple #[.string ⟨#[110,118,45,45,45]⟩,.bool true])/\w'=w:=by
 exact Dr
theorem Kh(w:World):Calls prog 37 #[.int .i64 21] w fun e w'=>e=.returned (.tuple #[.string ⟨#[119,119,45,45,45]⟩,.bool true])/\w'=w:=by
 exact Dr
theorem Ki(w:World):Calls prog 37 #[.int .i64 22] w fun e w'=>e=.returned (.tuple #[.string ⟨#[119,119,119,45,45]⟩,.bool true])/\w'=w:=by
 exact Dr
theorem Kj(w:World):Calls prog 37 #[.int .i64 23] w fun e w'=>e=.returned (.tuple #[.string ⟨#[119,119,119,45,45]⟩,.bool true])/\w'=w:=by
 exact Dr
theorem Kk(w:World):Calls prog 37 #[.int .i64 24] w fun e w'=>e=.returned (.tuple #[.string ⟨#[119,119,119,45,45]⟩,.bool true])/\w'=w:=by
 exact Dr
theorem Kl(w:World):Calls prog 37 #[.int .i64 25] w fun e w'=>e=.returned (.tuple #[.string ⟨#[119,119,45,45,45]⟩,.bool true])/\w'=w:=by
 exact Dr
theorem Km(w:World):Calls prog 37 #[.int .i64 26] w fun e w'=>e=.returned (.tuple #[.string ⟨#[119,119,119,119,45]⟩,.bool true])/\w'=w:=by
 exact Dr
theorem Kn(w:World):Calls prog 37 #[.int .i64 27] w fun e w'=>e=.returned (.tuple #[.string ⟨#[119,119,119,45,45]⟩,.bool true])/\w'=w:=by
 exact Dr
theorem Ko(w:World):Calls prog 37 #[.int .i64 28] w fun e w'=>e=.returned (.tuple #[.string ⟨#[119,119,119,45,45]⟩,.bool true])/\w'=w:=by
 exact Dr
theorem Kp(w:World):Calls prog 37 #[.int .i64 29] w fun e w'=>e=.returned (.tuple #[.string ⟨#[118,45,45,45,112]⟩,.bool true])/\w'=w:=by
 exact Dr
section
open Go.Maps (Keyed)
end
def Cl:Wk->List Aa->Wk
 |s,[]=>s
 |s,i::r=>Cl (As s i) r
def AQ(c:Cd):Wk->List Aa->Bool
 |_,[]=>true
 |s,i::r=>AS c s i&&AQ c (As s i) r
theorem DP:∀ (l m:List Aa) (s:Wk),Cl s (l++m)=Cl (Cl s l) m
 |[],m,s=>rfl
 |i::l,m,s=>by simp only[List.cons_append,Cl];exact DP l m _
theorem C8(c:Cd):∀ (l m:List Aa) (s:Wk),AQ c s (l++m)=(AQ c s l&&AQ c (Cl s l) m)
 |[],m,s=>by simp[AQ,Cl]
 |i::l,m,s=>by simp only[List.cons_append,AQ,Cl,C8 c l m,Bool.and_assoc]
theorem M7{c:Cd}:∀ {l:List Aa} {s:Wk} {k:Nat},(Gg c s k l).1=0↔AQ c s l=true/\(Cl s l).opens.isEmpty=true
 |[],s,k=>by
  simp only[Gg,AQ,Cl,true_and];by_cases h:s.opens.isEmpty=true
  ·simp[h]
  ·simp[h]
 |i::l,s,k=>by
  simp only[Gg,AQ,Cl,Bool.and_eq_true];by_cases h:AS c s i=true
  ·rw[if_pos h,M7 (k:=k+1)];simp[h]
  ·rw[if_neg h];simp[h]
theorem B8{c:Cd}:(Ah c).1=0↔BR c=0/\AQ c ⟨[],[]⟩ c.list=true/\(Cl ⟨[],[]⟩ c.list).opens.isEmpty=true:=by
 unfold Ah;by_cases h:BR c=0
 ·rw[if_neg (by simp[h]),M7];simp[h]
 ·rw[if_pos h];simp[h]
end Go.Proofs.Ytnbccaicijcklaa
