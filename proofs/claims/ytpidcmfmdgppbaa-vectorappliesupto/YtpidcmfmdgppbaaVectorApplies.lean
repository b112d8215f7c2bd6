import Derived.Test.YtpidcmfmdgppbaaVecRefB
/- The statement VectorApplies: its walk. -/
namespace Go.Proofs.Ytpidcmfmdgppbaa
open Go.RowKit
set_option linter.unusedVariables false

/-- What Apply answers: how long, which error, which numbers. -/
def aN (op : Int) (l : Nat → Nat) (m : Nat) : Nat := if takes op = 0 ∨ takes op ≠ m then 0 else (shp l (m - 1)).getD 0
def aE (op : Int) (l : Nat → Nat) (m : Nat) : Int := if takes op = 0 ∨ takes op ≠ m then 1 else if (shp l (m - 1)).isSome then 0 else 50
def aV (op : Int) (l : Nat → Nat) (X : Nat → Nat → Int) (m i : Nat) : Int := opf op (elAt l X m i 0) (elAt l X m i 1) (elAt l X m i 2)
theorem isP_aV (op : Int) (l : Nat → Nat) {X : Nat → Nat → Int} (hX : ∀ i j, IsP (X i j)) (m i : Nat) : IsP (aV op l X m i) := isP_opf _ _ _ _ (isP_elAt hX _ _ _) (isP_elAt hX _ _ _) (isP_elAt hX _ _ _)
theorem aE_lo (op : Int) (l : Nat → Nat) (m : Nat) : 0 ≤ aE op l m ∧ aE op l m ≤ 50 := by
  unfold aE; split
  · omega
  · split <;> omega
theorem aN_le (op : Int) (l : Nat → Nat) (m N : Nat) (hl : ∀ i, l i ≤ N) : aN op l m ≤ N := by
  unfold aN; split
  · omega
  · cases e : shp l (m - 1) with
    | none => exact Nat.zero_le _
    | some n => exact shp_le hl e

theorem apply_all (op : Int) (q : Option Addr) (m cq : Nat) (P : Nat → Option Addr) (l c : Nat → Nat) (X : Nat → Nat → Int) (hX : ∀ i j, IsP (X i j)) (hm : m ≤ 1048576) (hl : ∀ i, l i ≤ 1048576) (hc : m ≤ cq) (w : World) (hL : Lsts .u32 w q m P l c X) :
    Calls Try.prog 10 #[.int .i64 op, .slice q m cq] w fun e w' => ∃ q' c', e = .returned (.tuple #[.slice q' (aN op l m) c', .int .i64 (aE op l m)]) ∧ Reads w' q' (aN op l m) (fun i => .int .u32 (aV op l X m i)) ∧ Below w.heap.size w w' := by
  by_cases h : takes op = 0 ∨ takes op ≠ m
  · refine (apply_arg op q m cq hm h w).mono ?_
    rintro e w' ⟨rfl, hb⟩
    unfold aN aE
    rw [if_pos h, if_pos h]
    exact ⟨none, 0, rfl, .inl rfl, hb⟩
  · have h0 : takes op ≠ 0 := fun e => h (.inl e)
    have h1 : takes op = m := Classical.byContradiction fun e => h (.inr e)
    rcases hL.heads with z | ⟨b, o, rfl, -⟩
    · omega
    cases e : shp l (m - 1) with
    | none =>
      refine (apply_shape op h0 b o m cq h1 P l c X hl hc e w hL).mono ?_
      rintro e' w' ⟨rfl, hb⟩
      unfold aN aE
      rw [if_neg h, if_neg h, e]
      exact ⟨none, 0, rfl, .inl rfl, hb⟩
    | some n =>
      refine (apply_ok op h0 b o m cq h1 n P l c X hX hl hc e w hL).mono ?_
      rintro e' w' ⟨g, rfl, -, hr, hb⟩
      unfold aN aE
      rw [if_neg h, if_neg h, e]
      exact ⟨_, _, rfl, reads_row hr, hb⟩

theorem rapply_all (op : Int) (q : Option Addr) (m cq : Nat) (P : Nat → Option Addr) (l c : Nat → Nat) (X : Nat → Nat → Int) (hX : ∀ i j, IsP (X i j)) (hm : m ≤ 1048576) (hl : ∀ i, l i ≤ 1048576) (w : World) (hL : Lsts .i64 w q m P l c X) :
    Calls Try.prog 11 #[.int .i64 op, .slice q m cq] w fun e w' => ∃ q' c', e = .returned (.tuple #[.slice q' (aN op l m) c', .int .i64 (aE op l m)]) ∧ Reads w' q' (aN op l m) (fun i => .int .i64 (aV op l X m i)) ∧ Below w.heap.size w w' := by
  by_cases h : takes op = 0 ∨ takes op ≠ m
  · refine (rapply_arg op q m cq hm h w).mono ?_
    rintro e w' ⟨rfl, rfl⟩
    unfold aN aE
    rw [if_pos h, if_pos h]
    exact ⟨none, 0, rfl, .inl rfl, bel0 _⟩
  · have h0 : takes op ≠ 0 := fun e => h (.inl e)
    have h1 : takes op = m := Classical.byContradiction fun e => h (.inr e)
    rcases hL.heads with z | ⟨b, o, rfl, -⟩
    · omega
    cases e : shp l (m - 1) with
    | none =>
      refine (rapply_shape op h0 b o m cq h1 P l c X hl e w hL).mono ?_
      rintro e' w' ⟨rfl, rfl⟩
      unfold aN aE
      rw [if_neg h, if_neg h, e]
      exact ⟨none, 0, rfl, .inl rfl, bel0 _⟩
    | some n =>
      refine (rapply_ok op h0 b o m cq h1 n P l c X hX hl e w hL).mono ?_
      rintro e' w' ⟨q', c', rfl, hr, hb⟩
      unfold aN aE
      rw [if_neg h, if_neg h, e]
      exact ⟨_, _, rfl, hr, hb⟩

set_option maxRecDepth 100000 in
set_option maxHeartbeats 4000000 in
theorem walk_VectorApplies (op : Int) (o0 : -9223372036854775808 ≤ op) (o1 : op ≤ 9223372036854775807) (q : Option Addr) (m cq : Nat) (P : Nat → Option Addr) (l c : Nat → Nat) (X : Nat → Nat → Int) (hX : ∀ i j, IsP (X i j)) (hm : m ≤ 1048576) (hl : ∀ i, l i ≤ 1048576) (h0 : ∀ i, P i = none → l i = 0 ∧ c i = 0) (w : World) (hL : Lsts .u32 w q m P l c X) :
    Calls Try.prog 3 #[.int .i64 op, .slice q m cq] w fun e w' => e = .returned (.bool true) ∧ Below w.heap.size w w' := by
  have HL : Hid (Lsts .u32 w q m P l c X ∧ (∀ i j, IsP (X i j)) ∧ (∀ i, l i ≤ 1048576) ∧ ∀ i, P i = none → l i = 0 ∧ c i = 0) := ⟨hL, hX, hl, h0⟩
  obtain ⟨N, hN⟩ : ∃ N, N = aN op l m := ⟨_, rfl⟩
  obtain ⟨E, hE⟩ : ∃ E, E = aE op l m := ⟨_, rfl⟩
  have HN : Hid (aN op l m = N ∧ aE op l m = E) := ⟨hN.symm, hE.symm⟩
  have hNl : N ≤ 1048576 := by rw [hN]; exact aN_le op l m _ hl
  have hE0 : 0 ≤ E ∧ E ≤ 50 := by rw [hE]; exact aE_lo op l m
  have hE1 := hE0.1
  have hE2 := hE0.2
  clear hL hX hl h0 hN hE hE0
  go_enter Try.func3, Try.ntmps3
  go_wp2_with (first
    | (go_at_call 9; refine (twins_any _ _ _ P l c X HL.out.2.1 hm HL.out.2.2.1 HL.out.2.2.2 w HL.out.1).mono ?_; rintro e w1 ⟨q1, c1, P1, C1, rfl, hmc1, hL1, hb1⟩; have HL1 : Hid (Lsts .u32 w1 q1 m P1 l C1 X) := hL1; clear hL1)
    | (go_at_call 10; refine (apply_all op _ _ _ P1 l C1 X HL.out.2.1 hm HL.out.2.2.1 hmc1 w1 HL1.out).mono ?_; rintro e w2 ⟨q2, c2, rfl, hR2, hb2⟩; rw [HN.out.1, HN.out.2]; rw [HN.out.1] at hR2; have HR2 : Hid (Reads w2 q2 N (fun i => .int .u32 (aV op l X m i))) := hR2; clear hR2)
    | (go_at_call 12; refine (lists_any _ _ _ P l c X HL.out.2.1 hm HL.out.2.2.1 HL.out.2.2.2 w2 (HL.out.1.below (bel hb1 hb2))).mono ?_; rintro e w3 ⟨q3, c3, P3, C3, rfl, hmc3, hL3, hb3⟩; have HL3 : Hid (Lsts .i64 w3 q3 m P3 l C3 X) := hL3; clear hL3)
    | (go_at_call 11; refine (rapply_all op _ _ _ P3 l C3 X HL.out.2.1 hm HL.out.2.2.1 w3 HL3.out).mono ?_; rintro e w4 ⟨q4, c4, rfl, hR4, hb4⟩; rw [HN.out.1, HN.out.2]; rw [HN.out.1] at hR4; have HR4 : Hid (Reads w4 q4 N (fun i => .int .i64 (aV op l X m i))) := hR4; clear hR4)
    | (go_at_call 13; refine (same5_any _ _ _ _ _ (aV op l X m) (fun i _ => isP_aV op l HL.out.2.1 m i) w4 hNl (HR2.out.below (bel hb3 hb4)) HR4.out).mono ?_; rintro e w5 ⟨rfl, hb5⟩))
  have HB5 : Below w.heap.size w w5 := bel (bel (bel (bel hb1 hb2) hb3) hb4) hb5
  have HM : Hid (Lsts .u32 w5 q m P l c X ∧ Lsts .u32 w5 q1 m P1 l C1 X) := ⟨HL.out.1.below HB5, HL1.out.below (bel (bel (bel hb2 hb3) hb4) hb5)⟩
  clear hb1 hb2 hb3 hb4 hb5 HL1 HR2 HL3 HR4
  go_loopw [10] (fun iv wr => Below w5.heap.size w5 wr ∧ ∃ i : Nat, i ≤ m ∧ iv = .int .i64 i) (fun iv _ => m - (intOf iv).toNat)
  case atStart => exact ⟨bel0 _, 0, Nat.zero_le _, rfl⟩
  case round =>
    obtain ⟨hb, i, hi, rfl⟩ := hrel
    by_cases hlt : i < m
    · have M1 := HM.out.1.below hb
      have M2 := HM.out.2.below hb
      rcases M1.heads with z | ⟨b, o, rfl, hh1⟩
      · omega
      rcases M2.heads with z | ⟨b2, o2, rfl, hh2⟩
      · omega
      have h1 := hh1 i hlt
      have h2 := hh2 i hlt
      have i1 : (0 : Int) ≤ (i : Int) := by omega
      have i2 : (i : Int) < (m : Int) := by omega
      have HPI : Hid (Reads wr (P i) (l i) (fun j => .int .u32 (X i j)) ∧ Reads wr (P1 i) (l i) (fun j => .int .u32 (X i j))) := ⟨M1.parts i hlt, M2.parts i hlt⟩
      clear M1 M2 hh1 hh2
      go_wp2
      go_region_held3 (fun w' => w'.cell? ⟨b, o + i, none⟩ = some (.slice (P i) (l i) (c i)) ∧ w'.cell? ⟨b2, o2 + i, none⟩ = some (.slice (P1 i) (l i) (C1 i))) (go_keep)
        (first | (go_at_call 14; refine (alike_any _ _ _ _ _ (X i) (HL.out.2.1 i) _ (HL.out.2.2.1 i) (HPI.out.2.below (belD wr)) (HPI.out.1.below (belD wr))).mono ?_; rintro e w6 ⟨rfl, hb6⟩; have HB6 : Below wr.heap.size wr w6 := bel (belD wr) hb6; have e1 : w6.cell? ⟨b, o + i, none⟩ = some (.slice (P i) (l i) (c i)) := (HB6.cell (mcell_lt h1)).trans h1; have e2 : w6.cell? ⟨b2, o2 + i, none⟩ = some (.slice (P1 i) (l i) (C1 i)) := (HB6.cell (mcell_lt h2)).trans h2))
      go_wp2
      go_roundw
      case rel => exact ⟨bel hb HB6, i + 1, by omega, by go_num⟩
      case measure => simp [intOf]; omega
    · have : i = m := by omega
      subst this
      go_wp2_with (go_at_call 15; refine (sure_any _).mono ?_; rintro e w7 ⟨rfl, hb7⟩)
      go_ret
      exact ⟨rfl, bel (bel HB5 hb) hb7⟩

end Go.Proofs.Ytpidcmfmdgppbaa
