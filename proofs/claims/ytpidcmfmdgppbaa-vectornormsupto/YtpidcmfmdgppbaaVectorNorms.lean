import Derived.Test.YtpidcmfmdgppbaaVecSure
/- The statement VectorNorms: its walk. -/
namespace Go.Proofs.Ytpidcmfmdgppbaa
open Go.RowKit
set_option linter.unusedVariables false

set_option maxRecDepth 100000 in
set_option maxHeartbeats 2000000 in
theorem walk_VectorNorms (q : Option Addr) (m cq : Nat) (P : Nat → Option Addr) (l c : Nat → Nat) (X : Nat → Nat → Int) (hX : ∀ i j, IsP (X i j)) (hm : m ≤ 1048576) (hl : ∀ i, l i ≤ 1048576) (h0 : ∀ i, P i = none → l i = 0 ∧ c i = 0) (w : World) (hL : Lsts .u32 w q m P l c X) :
    Calls Try.prog 5 #[.slice q m cq] w fun e w' => e = .returned (.bool true) ∧ Below w.heap.size w w' := by
  have HL : Hid (Lsts .u32 w q m P l c X ∧ (∀ i j, IsP (X i j)) ∧ (∀ i, l i ≤ 1048576) ∧ ∀ i, P i = none → l i = 0 ∧ c i = 0) := ⟨hL, hX, hl, h0⟩
  have b1 := isP_sqrt (fnorms X l m)
  have l1 := b1.1; have l2 := b1.2
  clear hL hX hl h0 b1
  go_enter Try.func5, Try.ntmps5
  go_wp2_with (first
    | (go_at_call 25; refine (norm_any _ _ _ P l c X HL.out.2.1 hm HL.out.2.2.1 _ HL.out.1).mono ?_; rintro e w1 ⟨rfl, hb1⟩)
    | (go_at_call 12; refine (lists_any _ _ _ P l c X HL.out.2.1 hm HL.out.2.2.1 HL.out.2.2.2 w1 (HL.out.1.below hb1)).mono ?_; rintro e w2 ⟨q', c', P', C', rfl, hmc, hL2, hb2⟩; have HL2 : Hid (Lsts .i64 w2 q' m P' l C' X) := hL2; clear hL2)
    | (go_at_call 26; refine (rnorm_any _ _ _ P' l C' X HL.out.2.1 hm HL.out.2.2.1 _ HL2.out).mono ?_; rintro e w3 ⟨rfl, hb3⟩)
    | (go_at_call 15; refine (sure_any _).mono ?_; rintro e w4 ⟨rfl, hb4⟩))
  go_ret
  exact ⟨rfl, bel (bel (bel hb1 hb2) hb3) hb4⟩

end Go.Proofs.Ytpidcmfmdgppbaa
