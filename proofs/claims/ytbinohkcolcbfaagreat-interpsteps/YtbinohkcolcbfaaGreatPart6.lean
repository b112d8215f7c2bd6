import Derived.Test.YtbinohkcolcbfaaGreatPart2
import Derived.Test.YtbinohkcolcbfaaGreatPart1
namespace Go.Proofs.YtbinohkcolcbfaaGreat
open Go.RowKit Go.Proofs.Tryz
set_option linter.unusedVariables false
set_option linter.unusedSimpArgs false
set_option maxRecDepth 100000
set_option maxHeartbeats 16000000
theorem Zarb(w:World):Calls prog 53 #[.int .i64 22] w fun e w'=>e=.returned (.tuple #[rwV (rowP 22),.bool true])/\Below w.heap.size w w':=by
 exact Zaf
theorem Zaqi(w:World):Calls prog 53 #[.int .i64 23] w fun e w'=>e=.returned (.tuple #[rwV (rowP 23),.bool true])/\Below w.heap.size w w':=by
 exact Zaf
theorem Zaqq(w:World):Calls prog 53 #[.int .i64 24] w fun e w'=>e=.returned (.tuple #[rwV (rowP 24),.bool true])/\Below w.heap.size w w':=by
 exact Zaf
theorem Zarj(w:World):Calls prog 53 #[.int .i64 25] w fun e w'=>e=.returned (.tuple #[rwV (rowP 25),.bool true])/\Below w.heap.size w w':=by
 exact Zaf
theorem Zank(w:World):Calls prog 53 #[.int .i64 26] w fun e w'=>e=.returned (.tuple #[rwV (rowP 26),.bool true])/\Below w.heap.size w w':=by
 exact Zaf
theorem Zaql(w:World):Calls prog 53 #[.int .i64 27] w fun e w'=>e=.returned (.tuple #[rwV (rowP 27),.bool true])/\Below w.heap.size w w':=by
 exact Zaf
theorem Zapp(w:World):Calls prog 53 #[.int .i64 28] w fun e w'=>e=.returned (.tuple #[rwV (rowP 28),.bool true])/\Below w.heap.size w w':=by
 exact Zaf
theorem Zapk(w:World):Calls prog 53 #[.int .i64 29] w fun e w'=>e=.returned (.tuple #[rwV (rowP 29),.bool true])/\Below w.heap.size w w':=by
 exact Zaf
theorem Zaeh(w:World):Calls prog 67 #[.int .i64 30] w fun e w'=>e=.returned (.tuple #[.string ⟨#[118,45,45,45,112]⟩,.bool true])/\w'=w:=by
 exact Zap
theorem Zafa(w:World):Calls prog 67 #[.int .i64 31] w fun e w'=>e=.returned (.tuple #[.string ⟨#[45,118,45,45,112]⟩,.bool true])/\w'=w:=by
 exact Zap
theorem Zaek(w:World):Calls prog 67 #[.int .i64 32] w fun e w'=>e=.returned (.tuple #[.string ⟨#[97,45,45,45,115]⟩,.bool true])/\w'=w:=by
 exact Zap
theorem Zafw(w:World):Calls prog 67 #[.int .i64 33] w fun e w'=>e=.returned (.tuple #[.string ⟨#[45,97,45,45,115]⟩,.bool true])/\w'=w:=by
 exact Zap
theorem Zafx(w:World):Calls prog 67 #[.int .i64 34] w fun e w'=>e=.returned (.tuple #[.string ⟨#[45,119,45,45,45]⟩,.bool true])/\w'=w:=by
 exact Zap
theorem Zaep(w:World):Calls prog 67 #[.int .i64 35] w fun e w'=>e=.returned (.tuple #[.string ⟨#[45,45,45,45,45]⟩,.bool true])/\w'=w:=by
 exact Zap
theorem Zafp(w:World):Calls prog 67 #[.int .i64 36] w fun e w'=>e=.returned (.tuple #[.string ⟨#[45,45,45,45,113]⟩,.bool true])/\w'=w:=by
 exact Zap
theorem Zafk(w:World):Calls prog 67 #[.int .i64 37] w fun e w'=>e=.returned (.tuple #[.string ⟨#[45,45,45,45,45]⟩,.bool true])/\w'=w:=by
 exact Zap
theorem Zagf(w:World):Calls prog 67 #[.int .i64 22] w fun e w'=>e=.returned (.tuple #[.string ⟨#[119,119,119,45,45]⟩,.bool true])/\w'=w:=by
 exact Zap
theorem Zaex(w:World):Calls prog 67 #[.int .i64 23] w fun e w'=>e=.returned (.tuple #[.string ⟨#[119,119,119,45,45]⟩,.bool true])/\w'=w:=by
 exact Zap
theorem Zaeg(w:World):Calls prog 67 #[.int .i64 24] w fun e w'=>e=.returned (.tuple #[.string ⟨#[119,119,119,45,45]⟩,.bool true])/\w'=w:=by
 exact Zap
theorem Zaei(w:World):Calls prog 67 #[.int .i64 25] w fun e w'=>e=.returned (.tuple #[.string ⟨#[119,119,45,45,45]⟩,.bool true])/\w'=w:=by
 exact Zap
theorem Zaeu(w:World):Calls prog 67 #[.int .i64 26] w fun e w'=>e=.returned (.tuple #[.string ⟨#[119,119,119,119,45]⟩,.bool true])/\w'=w:=by
 exact Zap
theorem Zaeo(w:World):Calls prog 67 #[.int .i64 27] w fun e w'=>e=.returned (.tuple #[.string ⟨#[119,119,119,45,45]⟩,.bool true])/\w'=w:=by
 exact Zap
theorem Zafr(w:World):Calls prog 67 #[.int .i64 28] w fun e w'=>e=.returned (.tuple #[.string ⟨#[119,119,119,45,45]⟩,.bool true])/\w'=w:=by
 exact Zap
theorem Zafh(w:World):Calls prog 67 #[.int .i64 29] w fun e w'=>e=.returned (.tuple #[.string ⟨#[118,45,45,45,112]⟩,.bool true])/\w'=w:=by
 exact Zap
theorem Zaga(w:World):Calls prog 67 #[.int .i64 13] w fun e w'=>e=.returned (.tuple #[.string ⟨#[100,120,45,45,45]⟩,.bool true])/\w'=w:=by
 exact Zap
theorem Zaem(w:World):Calls prog 67 #[.int .i64 14] w fun e w'=>e=.returned (.tuple #[.string ⟨#[100,120,45,45,45]⟩,.bool true])/\w'=w:=by
 exact Zap
theorem Zaez(w:World):Calls prog 67 #[.int .i64 15] w fun e w'=>e=.returned (.tuple #[.string ⟨#[100,120,120,120,45]⟩,.bool true])/\w'=w:=by
 exact Zap
theorem Zafu(w:World):Calls prog 67 #[.int .i64 16] w fun e w'=>e=.returned (.tuple #[.string ⟨#[110,110,119,45,45]⟩,.bool true])/\w'=w:=by
 exact Zap
theorem Zafj(w:World):Calls prog 67 #[.int .i64 17] w fun e w'=>e=.returned (.tuple #[.string ⟨#[110,119,45,45,45]⟩,.bool true])/\w'=w:=by
 exact Zap
theorem Zafo(w:World):Calls prog 67 #[.int .i64 18] w fun e w'=>e=.returned (.tuple #[.string ⟨#[119,110,45,45,45]⟩,.bool true])/\w'=w:=by
 exact Zap
theorem Zagi(w:World):Calls prog 67 #[.int .i64 19] w fun e w'=>e=.returned (.tuple #[.string ⟨#[110,118,45,45,45]⟩,.bool true])/\w'=w:=by
 exact Zap
theorem Zaej(w:World):Calls prog 67 #[.int .i64 20] w fun e w'=>e=.returned (.tuple #[.string ⟨#[110,118,45,45,45]⟩,.bool true])/\w'=w:=by
 exact Zap
theorem Zafv(w:World):Calls prog 67 #[.int .i64 21] w fun e w'=>e=.returned (.tuple #[.string ⟨#[119,119,45,45,45]⟩,.bool true])/\w'=w:=by
 exact Zap
def runP:Wk->List Ins->Wk
 |s,[]=>s
 |s,i::r=>runP (Zib s i) r
def Zlg(c:Cd):Wk->List Ins->Bool
 |_,[]=>true
 |s,i::r=>Zjb c s i&&Zlg c (Zib s i) r
theorem goP_ok{c:Cd}:∀ {l:List Ins} {s:Wk} {k:Nat},(goP c s k l).1=0↔Zlg c s l=true/\(runP s l).opens.isEmpty=true
 |[],s,k=>by
  simp only[goP,Zlg,runP,true_and];by_cases h:s.opens.isEmpty=true
  ·simp[h]
  ·simp[h]
 |i::l,s,k=>by
  simp only[goP,Zlg,runP,Bool.and_eq_true];by_cases h:Zjb c s i=true
  ·rw[if_pos h,goP_ok (k:=k+1)];simp[h]
  ·rw[if_neg h];simp[h]
theorem Zym{c:Cd}:(Zik c).1=0↔Zkw c=0/\Zlg c ⟨[],[]⟩ c.list=true/\(runP ⟨[],[]⟩ c.list).opens.isEmpty=true:=by
 unfold Zik;by_cases h:Zkw c=0
 ·rw[if_neg (by simp[h]),goP_ok];simp[h]
 ·rw[if_pos h];simp[h]
def insP(S:List Nat)(i:Ins):List Nat:=if(rowP i.op).d≠0/\i.d.toNat∉S then S++[i.d.toNat]else S
theorem Zaan:∀ {r:List Bk} {n:Nat},okO n r->∀b∈r,b.ahead<=n
 |[],_,_,b,hb=>absurd hb sM
 |a::r,n,h,b,hb=>by
  rcases List.mem_cons.1 hb with rfl|hb
  ·exact h.1
  ·exact Nat.le_trans (Zaan h.2 b hb) h.1
theorem Zyj{s:Wk}{i:Ins}(h:(rowP i.op).d=0):addP s i (rowP i.op)=s:=by unfold addP;rw[if_neg (fun e=>e.1 h)]
theorem Zafm{S:List Nat}{i:Ins}{x:Nat}:x∈insP S i↔x∈S\/((rowP i.op).d≠0/\x=i.d.toNat):=by
 unfold insP;by_cases h:(rowP i.op).d≠0/\i.d.toNat∉S
 ·rw[if_pos h,List.mem_append];simp only[List.mem_singleton];exact⟨fun q=>q.imp id fun e=>⟨h.1,e⟩,fun q=>q.imp id fun e=>e.2⟩
 ·rw[if_neg h];constructor
  ·exact .inl
  ·rintro(q|⟨q1,q2⟩)
   ·exact q
   ·rw[q2];exact Decidable.byContradiction fun e=>h ⟨q1,e⟩
def upd(f:Nat->Bool)(n:Nat)(b:Bool)(m:Nat):Bool:=if m=n then b else f m
end Go.Proofs.YtbinohkcolcbfaaGreat
