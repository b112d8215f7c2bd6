import Derived.Test.YtpidcmfmdgppbaaVecApply3
import Derived.Test.YtpidcmfmdgppbaaVecNorm
/- The head of layer 5's statements. -/
namespace Go.Proofs.Ytpidcmfmdgppbaa
open Go.RowKit
set_option linter.unusedVariables false

def sX : Nat → Nat → Int := fun i j => if i = 0 then (if j = 0 then 1065353216 else 1073741824) else 1065353216
def sl : Nat → Nat := fun i => if i = 0 then 2 else 1
def sP (B : Nat) : Nat → Option Addr := fun i => if i = 0 then some ⟨B, 0, none⟩ else some ⟨B + 1, 0, none⟩
theorem isP_sX (i j : Nat) : IsP (sX i j) := isP_ite (isP_ite (by unfold IsP; decide) (by unfold IsP; decide)) (by unfold IsP; decide)

theorem lsts_sure (w : World) : Lsts .u32 (((w.alloc (.cells #[.int .u32 1065353216, .int .u32 1073741824] 38)).alloc (.cells #[.int .u32 1065353216] 38)).alloc (.cells #[.slice (some ⟨w.heap.size, 0, none⟩) 2 2, .slice (some ⟨w.heap.size + 1, 0, none⟩) 1 1] 24)) (some ⟨w.heap.size + 1 + 1, 0, none⟩) 2 (sP w.heap.size) sl sl sX := by
  refine ⟨.inr ⟨_, 0, rfl, fun i hi => ?_⟩, fun i hi => ?_⟩
  · have : i = 0 ∨ i = 1 := by omega
    rcases this with rfl | rfl
    · simp [sP, sl, go_sem]
    · simp [sP, sl, go_sem]
  · have : i = 0 ∨ i = 1 := by omega
    rcases this with rfl | rfl
    · refine .inr ⟨w.heap.size, 0, rfl, fun j hj => ?_⟩
      have : j = 0 ∨ j = 1 := by unfold sl at hj; simp at hj; omega
      rcases this with rfl | rfl
      · simp [sX, go_sem]
      · simp [sX, go_sem]
    · refine .inr ⟨w.heap.size + 1, 0, rfl, fun j hj => ?_⟩
      have : j = 0 := by unfold sl at hj; simp at hj; omega
      subst this
      simp [sX, go_sem]

theorem one_reads (w : World) (v : Value) (t : TypeId) : Reads (w.alloc (.cells #[v] t)) (some ⟨w.heap.size, 0, none⟩) 1 (fun _ => v) := by
  refine .inr ⟨_, 0, rfl, fun i hi => ?_⟩
  have : i = 0 := by omega
  subst this
  simp [go_sem]

def sR : Nat → Int := fun i => opf 4 (elAt sl sX 2 i 0) (elAt sl sX 2 i 1) (elAt sl sX 2 i 2)
theorem isP_sR (i : Nat) : IsP (sR i) := isP_opf _ _ _ _ (isP_elAt isP_sX _ _ _) (isP_elAt isP_sX _ _ _) (isP_elAt isP_sX _ _ _)

set_option maxRecDepth 100000 in
set_option maxHeartbeats 2000000 in
theorem sure_any (w : World) : Calls Try.prog 15 #[] w fun e w' => e = .returned (.bool true) ∧ Below w.heap.size w w' := by
  have r0 : sR 0 = 1073741824 := by decide +kernel
  have r1 : sR 1 = 1077936128 := by decide +kernel
  have r2 : fsum sR 2 = 1084227584 := by decide +kernel
  have r3 : fdot (fun _ => 1073741824) (fun _ => 1073741824) 1 = 1082130432 := by decide +kernel
  have HR : Hid (sR 0 = 1073741824 ∧ sR 1 = 1077936128 ∧ fsum sR 2 = 1084227584 ∧ fdot (fun _ => 1073741824) (fun _ => 1073741824) 1 = 1082130432) := ⟨r0, r1, r2, r3⟩
  clear r0 r1 r2 r3
  go_enter Try.func15, Try.ntmps15
  go_wp2_with (first
    | (go_at_call_of 10 (Value.int IntKind.i64 4); refine (apply_ok 4 (by decide) (w.heap.size + 1 + 1) 0 2 2 rfl 2 (sP w.heap.size) sl sl sX isP_sX (fun i => by unfold sl; split <;> omega) (Nat.le_refl _) (by decide) _ (lsts_sure w)).mono ?_; rintro e w1 ⟨g, rfl, hg, hr, hb1⟩; have HW : Hid (w1.rowIs g 38 2 (fun i => .int .u32 (sR i))) := hr; have HB1 : Below w.heap.size w w1 := bel (by go_grown) hb1; clear hr)
    | (go_at_call 10; refine (apply_arg 19 _ _ _ (by omega) (.inl (by decide)) _).mono ?_; rintro e w2 ⟨rfl, hb2⟩; have HB2 : Below w1.heap.size w1 w2 := bel (by go_grown) hb2; have rw2 := row_below HW.out HB2; have c0 := rw2.cell (i := 0) (by omega); have c1 := rw2.cell (i := 1) (by omega); rw [HR.out.1] at c0; rw [HR.out.2.1] at c1; have HW2 : Hid (w2.rowIs g 38 2 (fun i => .int .u32 (sR i))) := rw2; clear rw2)
    | (go_at_call 19; refine (sum_any _ _ _ sR isP_sR (by omega) _ (reads_row HW2.out)).mono ?_; rintro e w3 ⟨rfl, hb3⟩; rw [HR.out.2.2.1])
    | (go_at_call 29; refine (least_any _ _ _ (fun _ => 0) (fun _ => isP_0) (by omega) _ (.inl rfl)).mono ?_; rintro e w4 ⟨rfl, hb4⟩; rw [show fleast (fun _ => 0) 0 = 2139095040 from rfl])
    | (go_at_call 21; refine (squares_any _ _ _ (fun _ => 1073741824) (fun _ => by unfold IsP; decide) (by omega) _ (one_reads _ _ _)).mono ?_; rintro e w5 ⟨rfl, hb5⟩; rw [HR.out.2.2.2]; have HB5 : Below w4.heap.size w4 w5 := bel (by go_grown) hb5))
  go_ret
  exact ⟨rfl, bel (bel (bel (bel HB1 HB2) hb3) hb4) HB5⟩

end Go.Proofs.Ytpidcmfmdgppbaa
