import Derived.Test.YtjlpkjblkllfbaaGreatDoorOwn28
import Derived.WalkKit
import Derived.ProofKit
import Derived.OpenShut
import Derived.ShutString
import Derived.ChangeOld
import Derived.Below
import Derived.SizedLaws
import Derived.Test.YtjlpkjblkllfbaaGreatDoorOwn11
import Derived.Test.YtjlpkjblkllfbaaGreatDoorCards
import Derived.Test.YtjlpkjblkllfbaaGreatDoorTie
import Derived.JoinedCond
import Derived.SevenTiedAt
import Derived.Stop.Joined
import Derived.Test.YtjlpkjblkllfbaaGreatDoorOwn1
/- The tied card of the statement AsmOwn: the frame round its walk. -/
namespace Go.Proofs.YtjlpkjblkllfbaaGreatDoor
open Go.ChangeShapes Go.WideShapes Go.ChangeAt Go.RowKit
open Go.ChangeMaps (open_string shut_string)
set_option linter.unusedVariables false
namespace asmOwnCard

theorem own : ownKnob Tryz.prog.godebug = none := by kernel_rfl
theorem Sc : laidOutB Tryz.prog = true := by kernel_rfl

set_option maxRecDepth 100000 in
theorem Us (os : Os) (started : os.Started) (H : Type) (enc : TypeId × Value → H) (F : Stop.Interp) :
    ReturnsInHanded {} Tryz.checked os 4 .any ((OpenSpec.ofChange Rows.asmOwnSpec).preRow enc Tryz.prog Tryz.f4 Rows.asmOwnRow.domain false Rows.asmOwnRow.laid) (((OpenSpec.ofChange Rows.asmOwnSpec).at F).post enc Tryz.prog Tryz.f4 false true false false) := by
  refine returnsInHanded_of_row (C := Tryz.checked) (s := (OpenSpec.ofChange Rows.asmOwnSpec)) own started (by kernel_rfl) Tryz.func4
    (Me (s := (OpenSpec.ofChange Rows.asmOwnSpec)) #[.string ByteArray.empty] (by kernel_rfl) (OpenSpec.preRow_of_cond 8 (x := ([.lit (.string [])], [], [])) (by kernel_rfl) (by kernel_rfl) (fun k hk => by cases hk) (by kernel_rfl) (UY os _))) ?_
  intro W base args ds gs before hval0 hW hcnd hcond hsz0 hL hsh _
  have hsz : (DataW.weightsEach Tryz.prog (Tryz.f4.params.toList ++ (OpenSpec.ofChange Rows.asmOwnSpec).bare.plain.varTypes Tryz.prog) (ds ++ gs)).all (· ≤ reachBytes) = true := hsz0
  clear hsz0
  have hval : ∀ (j : Nat) t v, Tryz.f4.params[j]? = some t → args[j]? = some v → Value.okWide Tryz.prog W .any base t v := hval0
  have hW' := hW
  obtain ⟨p, q, hA0, hV, rfl, hfz, hnd⟩ := hW
  have hA : DataW.TrodAll enc Tryz.prog W 0 (fun _ => true) true Tryz.f4.params.toList args.toList ds p := hA0
  rw [Tryz.params4] at hA hval hsz
  obtain ⟨v0, vs0, d0, ds0, p0, q0, hargs, rfl, rfl, h0, r0⟩ := trodAll_cons hA
  obtain ⟨rfl, rfl, rfl⟩ := trodAll_nil r0
  obtain rfl : args = #[v0] := by cases args; simp_all
  obtain ⟨rfl, rfl⟩ := trodVars_none hV
  have k0 := h0
  have lt0 : ∀ x ∈ p0, x.block < W.heap.size := by obtain ⟨m, hm⟩ := k0; exact DataW.trod_lt m _ _ _ hm
  have hs0 : ∀ a : ByteArray, d0 = .lit (.string a.data.toList) → a.size ≤ 140737488351232 := fun a e => by
    have := List.all_eq_true.1 hsz a.data.toList.length (DataW.weights_mem_each (j := 0) (t := 9) rfl rfl _ (by rw [e]; simp [DataW.weights]))
    have := of_decide_eq_true this
    simpa [reachBytes] using this
  obtain ⟨a0, rfl, hd0, rfl, w0⟩ := open_string Tryz.underlying9 (hval 0 9 v0 rfl rfl) h0
  clear hA0 hval0
  refine (Kx a0 (hs0 a0 hd0) W (Sd hsh hL)).mono fun e W' ⟨he, bel⟩ => ?_
  subst he
  exact ⟨_, rfl, _, _, _, [], _, [], hW', trodAll_mk1 (shut_bool Tryz.underlying4 _), (trodAll_cons_mk (Below.trod Sc (by kernel_rfl) (of_decide_eq_true (by kernel_rfl)) k0 bel lt0) trodAll_mk0), rfl, bel.frame _, fun h => by cases h⟩

theorem said : Rows.asmOwnRow.holds Tryz.pinned (OpenSpec.ofChange Rows.asmOwnSpec) :=
  OpenClaim.holds_of_cond 4 Tryz.f4 rfl rfl rfl rfl rfl rfl rfl ⟨rfl, rfl, rfl, rfl, rfl⟩ rfl rfl rfl rfl rfl (by kernel_rfl) Tryz.func4 (by kernel_rfl)
    (of_decide_eq_true (by kernel_rfl)) (by unfold Func.isWrapper; first | (rw [if_pos (by decide +kernel)]; kernel_rfl) | (rw [if_neg (by decide +kernel)]; exact ⟨rfl, rfl⟩))
    (fun os started H enc _ F => by rw [OpenClaim.pre_eq_preRow]; exact Us os started H enc F)

theorem plain (f : FuncId) (fn : Func) (hf : Tryz.pinned.checked.prog.funcNamed "lathe/lathelaw25.AsmOwn" = some f) (hfn : Tryz.pinned.checked.prog.funcs[f]? = some fn) :
    true = Tryz.pinned.checked.prog.looks [] ∧ ∀ (j : Nat) t, fn.params[j]? = some t → Tryz.pinned.checked.prog.wantsStandIn t = false := by
  obtain rfl : f = 4 := Option.some.inj ((show Tryz.prog.funcNamed "lathe/lathelaw25.AsmOwn" = some 4 by kernel_rfl).symm.trans hf) |>.symm
  obtain rfl : fn = Tryz.f4 := (Option.some.inj (Tryz.func4.symm.trans hfn)).symm
  refine ⟨by kernel_rfl, fun j t ht => ?_⟩
  have hall : (Tryz.f4.params.toList.all fun u => !Tryz.prog.wantsStandIn u) = true := by kernel_rfl
  have := List.all_eq_true.1 hall t (Array.mem_toList_iff.2 (Array.mem_of_getElem? ht))
  exact (show Tryz.prog.wantsStandIn t = false by simpa using this)

end asmOwnCard
theorem asmOwnCard_holds : Rows.AsmOwnCardSaid :=
  Claim7.holds_tied_plain_at .later [] _ _ _ _ asmOwnCard.said (fun _ h => by cases h) (by kernel_rfl) (fun _ h => by cases h) asmOwn_row_tie rfl ⟨rfl, rfl⟩ (by kernel_rfl) rfl asmOwnCard.plain (by kernel_rfl)
#print axioms asmOwnCard_holds

end Go.Proofs.YtjlpkjblkllfbaaGreatDoor
