import Derived.Test.YtmpfoajpafglgaaDoorSignFits
import Derived.Test.YtmpfoajpafglgaaDoorSignOpenB
import Derived.WalkKit
import Derived.ProofKit
import Derived.OpenShut
import Derived.ShutString
import Derived.ChangeOld
import Derived.Below
import Derived.JoinedCond
import Derived.Test.YtmpfoajpafglgaaDoorSignLaid
import Derived.Test.YtmpfoajpafglgaaDoorCards
import Derived.Test.YtmpfoajpafglgaaDoorTie
import Derived.JoinedCond
import Derived.SevenTiedAt
import Derived.Stop.Joined
/- The tied card of the statement SignFits, where what comes in is of bounded bulk: the frame round its walk. -/
namespace Go.Proofs.YtmpfoajpafglgaaDoor
open Go.ChangeShapes Go.WideShapes Go.ChangeAt Go.RowKit
set_option linter.unusedVariables false
namespace signFitsCard

theorem own : ownKnob Tryd.prog.godebug = none := by kernel_rfl
theorem laidOut : laidOutB Tryd.prog = true := by kernel_rfl

set_option maxRecDepth 100000 in
theorem lifted (os : Os) (started : os.Started) (H : Type) (enc : TypeId × Value → H) (F : Stop.Interp) :
    ReturnsInHanded {} Tryd.checked os 6 .any ((Rows.OpenSpec.upto Rows.signFitsSpec).preRow enc Tryd.prog Tryd.f6 Rows.signFitsUptoRow.domain false Rows.signFitsUptoRow.laid) (((Rows.OpenSpec.upto Rows.signFitsSpec).at F).post enc Tryd.prog Tryd.f6 false true false false) := by
  refine returnsInHanded_of_row (C := Tryd.checked) (s := (Rows.OpenSpec.upto Rows.signFitsSpec)) own started (by kernel_rfl) Tryd.func6
    (witness_wl (s := (Rows.OpenSpec.upto Rows.signFitsSpec)) #[.slice none 0 0, .slice none 0 0] (by kernel_rfl) (OpenSpec.preRow_of_cond 8 (x := ([.nil, .nil], [], [])) (by kernel_rfl) (by kernel_rfl) (fun k hk => by cases hk; kernel_rfl) (by kernel_rfl) (wl_met os _))) ?_
  intro W base args ds gs before hval0 hW hcnd hcond hsz0 hL hsh _
  have hk := hcond _ rfl
  have hval : ∀ (j : Nat) t v, Tryd.f6.params[j]? = some t → args[j]? = some v → Value.okWide Tryd.prog W .any base t v := hval0
  have hW' := hW
  obtain ⟨p, q, hA0, hV, rfl, hfz, hnd⟩ := hW
  have hA : DataW.TrodAll enc Tryd.prog W 0 (fun _ => true) true Tryd.f6.params.toList args.toList ds p := hA0
  rw [Tryd.params6] at hA hval
  obtain ⟨v0, vs0, d0, ds0, pp0, qq0, hargs, rfl, rfl, h0, rr0⟩ := trodAll_cons hA
  obtain ⟨v1, vs1, d1, ds1, pp1, qq1, rfl, rfl, rfl, h1, rr1⟩ := trodAll_cons rr0
  obtain ⟨rfl, rfl, rfl⟩ := trodAll_nil rr1
  obtain rfl : args = #[v0, v1] := by cases args; simp_all
  obtain ⟨rfl, rfl⟩ := trodVars_none hV
  have HB : Rows.uptoBulkAll ([d0, d1] ++ []) ≤ 1048576 := of_decide_eq_true hk
  simp only [List.append_nil, Rows.uptoBulkAll] at HB
  have kk0 := h0
  have lt0 : ∀ x ∈ pp0, x.block < W.heap.size := by obtain ⟨m, hm⟩ := kk0; exact DataW.trod_lt m _ _ _ hm
  obtain ⟨p0, n0, c0, rfl⟩ := okWide_slice Tryd.underlying22 (hval 0 22 v0 rfl rfl)
  obtain ⟨p0', c0', l0, e0, r0, u0, uu0⟩ : ∃ (p : Option Addr) (c : Nat) (l : List Par), Value.slice p0 n0 c0 = .slice p l.length c ∧ Row W p l ∧ l.length ≤ Rows.uptoBulk d0 ∧ (∀ q ∈ l, q.name.size ≤ Rows.uptoBulk d0) := by
    obtain ⟨fuel, hf⟩ := h0
    exact open_ParsB hf
  cases e0
  have kk1 := h1
  have lt1 : ∀ x ∈ pp1, x.block < W.heap.size := by obtain ⟨m, hm⟩ := kk1; exact DataW.trod_lt m _ _ _ hm
  obtain ⟨p1, n1, c1, rfl⟩ := okWide_slice Tryd.underlying44 (hval 1 44 v1 rfl rfl)
  obtain ⟨p1', c1', xs1, e1, r1, u1⟩ : ∃ (p : Option Addr) (c : Nat) (xs : List Int), Value.slice p1 n1 c1 = .slice p xs.length c ∧ RdI W p xs ∧ xs.length ≤ Rows.uptoBulk d1 := by
    obtain ⟨fuel, hf⟩ := h1
    exact open_IntsB hf
  cases e1
  clear hA0 hval0
  refine (walk_SignFits p0 c0 l0 (by omega) (fun q hq => by have := uu0 q hq; omega) p1 c1 xs1 (by omega) W (laid_of hsh hL) r0 r1).mono fun e W' ⟨he, bel⟩ => ?_
  subst he
  exact ⟨_, rfl, _, _, _, [], _, [], hW', trodAll_mk1 (shut_bool Tryd.underlying4 _), (trodAll_cons_mk (Below.trod laidOut (by kernel_rfl) (of_decide_eq_true (by kernel_rfl)) kk0 bel lt0) (trodAll_cons_mk (Below.trod laidOut (by kernel_rfl) (of_decide_eq_true (by kernel_rfl)) kk1 bel lt1) trodAll_mk0)), rfl, bel.frame _, fun h => by cases h⟩

theorem said : Rows.signFitsUptoRow.holds Tryd.pinned (Rows.OpenSpec.upto Rows.signFitsSpec) :=
  OpenClaim.holds_of_cond 6 Tryd.f6 rfl rfl rfl rfl rfl rfl rfl ⟨rfl, rfl, rfl, rfl, rfl⟩ rfl rfl rfl rfl rfl (by kernel_rfl) Tryd.func6 (by kernel_rfl)
    (of_decide_eq_true (by kernel_rfl)) (by unfold Func.isWrapper; first | (rw [if_pos (by decide +kernel)]; kernel_rfl) | (rw [if_neg (by decide +kernel)]; exact ⟨rfl, rfl⟩))
    (fun os started H enc _ F => by rw [OpenClaim.pre_eq_preRow]; exact lifted os started H enc F)

theorem plain (f : FuncId) (fn : Func) (hf : Tryd.pinned.checked.prog.funcNamed "lathe/lathelaw10.SignFits" = some f) (hfn : Tryd.pinned.checked.prog.funcs[f]? = some fn) :
    true = Tryd.pinned.checked.prog.looks [] ∧ ∀ (j : Nat) t, fn.params[j]? = some t → Tryd.pinned.checked.prog.wantsStandIn t = false := by
  obtain rfl : f = 6 := Option.some.inj ((show Tryd.prog.funcNamed "lathe/lathelaw10.SignFits" = some 6 by kernel_rfl).symm.trans hf) |>.symm
  obtain rfl : fn = Tryd.f6 := (Option.some.inj (Tryd.func6.symm.trans hfn)).symm
  refine ⟨by kernel_rfl, fun j t ht => ?_⟩
  have hall : (Tryd.f6.params.toList.all fun u => !Tryd.prog.wantsStandIn u) = true := by kernel_rfl
  have := List.all_eq_true.1 hall t (Array.mem_toList_iff.2 (Array.mem_of_getElem? ht))
  exact (show Tryd.prog.wantsStandIn t = false by simpa using this)

end signFitsCard
theorem signFitsUptoCard_holds : Rows.SignFitsUptoCardSaid :=
  Claim7.holds_tied_plain_at .later [] _ _ _ _ signFitsCard.said (fun _ h => by cases h) (by kernel_rfl) (fun _ h => by cases h) signFitsUpto_row_tie rfl ⟨rfl, rfl⟩ (by kernel_rfl) rfl signFitsCard.plain (by kernel_rfl)
#print axioms signFitsUptoCard_holds

end Go.Proofs.YtmpfoajpafglgaaDoor
