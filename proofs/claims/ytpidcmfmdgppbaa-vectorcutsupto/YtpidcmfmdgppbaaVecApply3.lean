import Derived.Test.YtpidcmfmdgppbaaVecApply2
import Derived.Test.YtpidcmfmdgppbaaVecWalks2
import Derived.Deep.RegionHeld3
import Derived.Laws.EntriesVeiled
/- Package vector: Apply. -/
namespace Go.Proofs.Ytpidcmfmdgppbaa
open Go.RowKit
set_option linter.unusedVariables false

set_option maxRecDepth 100000 in
set_option maxHeartbeats 2000000 in
theorem apply1_any (D : Value) (f : Int → Int → Int → Int) (place g1 g2 b o m cq : Nat) (P : Nat → Option Addr) (l c : Nat → Nat) (X : Nat → Nat → Int) (hX : ∀ i j, IsP (X i j)) (hm : m ≤ 3) (hi : place ≤ 1048576) (hl : ∀ i, l i ≤ 1048576) (hpl : ∀ i, i < m → l i = 1 ∨ place < l i) (w : World)
    (hL : Lsts .u32 w (some ⟨b, o, none⟩) m P l c X) (hW : Works w D f) (hD : w.cell? ⟨g1, 0, none⟩ = some D) (hA : w.cell? ⟨g2, 0, none⟩ = some (.slice (some ⟨b, o, none⟩) m cq)) :
    Calls Try.prog 41 #[.int .i64 place, .pointer (some ⟨g1, 0, none⟩), .pointer (some ⟨g2, 0, none⟩)] w fun e w' => e = .returned (.int .u32 (f (elAt l X m place 0) (elAt l X m place 1) (elAt l X m place 2))) ∧ Below w.heap.size w w' := by
  obtain ⟨k, cap, rfl, hen, hk⟩ := hW
  have HK : Hid (∀ v : World, Below w.heap.size w v → Calls Try.prog k (#[.agg #[.int .u32 (elAt l X m place 0), .int .u32 (elAt l X m place 1), .int .u32 (elAt l X m place 2)]] ++ cap) v fun e v' => e = .returned (.int .u32 (f (elAt l X m place 0) (elAt l X m place 1) (elAt l X m place 2))) ∧ Below v.heap.size v v') := fun v hv => hk _ _ _ v (isP_elAt hX m place 0) (isP_elAt hX m place 1) (isP_elAt hX m place 2) hv
  have HL : Hid (Lsts .u32 w (some ⟨b, o, none⟩) m P l c X ∧ (∀ i, l i ≤ 1048576) ∧ ∀ i, i < m → l i = 1 ∨ place < l i) := ⟨hL, hl, hpl⟩
  have d1 := mcell_lt hD
  have d2 := mcell_lt hA
  unfold Ent at hen
  clear hk hL hl hpl hX
  go_enter Try.func41, Try.ntmps41
  go_wp2
  go_region_held3 (fun w' => w'.cell? ⟨g1, 0, none⟩ = some (.func (.func k) #[] cap) ∧ w'.cell? ⟨g2, 0, none⟩ = some (.slice (some ⟨b, o, none⟩) m cq)) (go_keep) (first
    | (go_at_call 42; refine (argsAt_any place b o m cq P l c X hm hi HL.out.2.1 HL.out.2.2 _ (HL.out.1.below (belD w))).mono ?_; rintro e w1 ⟨rfl, hb1⟩; have HB : Below w.heap.size w w1 := bel (belD w) hb1; have e1 : w1.cell? ⟨g1, 0, none⟩ = some (.func (.func k) #[] cap) := (HB.cell d1).trans hD; have e2 : w1.cell? ⟨g2, 0, none⟩ = some (.slice (some ⟨b, o, none⟩) m cq) := (HB.cell d2).trans hA)
    | ((with_reducible refine (HK.out _ HB).mono ?_); rintro e w2 ⟨rfl, hb2⟩; have e3 : w2.cell? ⟨g1, 0, none⟩ = some (.func (.func k) #[] cap) := (hb2.cell (mcell_lt e1)).trans e1; have e4 : w2.cell? ⟨g2, 0, none⟩ = some (.slice (some ⟨b, o, none⟩) m cq) := (hb2.cell (mcell_lt e2)).trans e2))
  go_wp2
  go_ret
  exact ⟨rfl, bel HB hb2⟩

theorem lsts_head {k : IntKind} {w : World} {b o m : Nat} {P : Nat → Option Addr} {l c : Nat → Nat} {X : Nat → Nat → Int} (h : Lsts k w (some ⟨b, o, none⟩) m P l c X) (i : Nat) (hi : i < m) : w.cell? ⟨b, o + i, none⟩ = some (.slice (P i) (l i) (c i)) := by
  rcases h.heads with q | ⟨b', o', e, hh⟩
  · omega
  · cases e; exact hh i hi
theorem shp_place {l : Nat → Nat} {M n i j : Nat} (h : shp l M = some n) (hj : j ≤ M) (hi : i < n) : l j = 1 ∨ i < l j := by
  rcases shp_each h j hj with e | e
  · right; omega
  · left; exact e.1

theorem takes_le (op : Int) : takes op ≤ 3 := by
  unfold takes
  split
  · omega
  · split
    · omega
    · split <;> omega

set_option maxRecDepth 100000 in
set_option maxHeartbeats 2000000 in
theorem apply_ok (op : Int) (h0 : takes op ≠ 0) (b o m cq : Nat) (hm : takes op = m) (n : Nat) (P : Nat → Option Addr) (l c : Nat → Nat) (X : Nat → Nat → Int) (hX : ∀ i j, IsP (X i j)) (hl : ∀ i, l i ≤ 1048576) (hc : m ≤ cq) (hs : shp l (m - 1) = some n) (w : World) (hL : Lsts .u32 w (some ⟨b, o, none⟩) m P l c X) :
    Calls Try.prog 10 #[.int .i64 op, .slice (some ⟨b, o, none⟩) m cq] w fun e w' => ∃ g, e = .returned (.tuple #[.slice (some ⟨g, 0, none⟩) n n, .int .i64 0]) ∧ w.heap.size ≤ g ∧ w'.rowIs g 38 n (fun i => .int .u32 (opf op (elAt l X m i 0) (elAt l X m i 1) (elAt l X m i 2))) ∧ Below w.heap.size w w' := by
  have HL : Hid (Lsts .u32 w (some ⟨b, o, none⟩) m P l c X ∧ (∀ i, l i ≤ 1048576) ∧ shp l (m - 1) = some n ∧ (∀ i j, IsP (X i j))) := ⟨hL, hl, hs, hX⟩
  have hn : n ≤ 1048576 := shp_le hl hs
  have hm3 : m ≤ 3 := by rw [← hm]; exact takes_le op
  have ht : ¬ ((m : Int) = 0) := by omega
  have H0 : Hid (takes op ≠ 0) := h0
  have HM : Hid (takes op = m) := hm
  obtain ⟨M, rfl⟩ : ∃ M, m = M + 1 := ⟨m - 1, by omega⟩
  have HS : Hid (shp l M = some n) := hs
  clear hL hl hs hX h0 hm
  go_enter Try.func10, Try.ntmps10
  go_wp2_with (first
    | (go_at_call 38; refine (instr_any op H0.out _).mono ?_; rintro e w1 ⟨D, rfl, hD, hb1⟩; rw [HM.out]; have hD' := hD; obtain ⟨kD, capD, rfl, -, -⟩ := hD'; have HD : Hid (Works w1 (.func (.func kD) #[] capD) (opf op)) := hD; have a1 : w1.cell? ⟨w.heap.size, 0, none⟩ = some (.slice (some ⟨b, o, none⟩) (M + 1) cq) := (hb1.cell (by simp)).trans (by simp); have s1 : w.heap.size < w1.heap.size := mcell_lt a1; have s2 : w.heap.size ≠ w1.heap.size := (by omega); clear hD)
    | (go_at_call 39; refine (shape_any b o M cq P l c (by omega) HL.out.2.1 hc _ (fun i hi => lsts_head (HL.out.1.below (bel (bel (mbel_alloc w _) hb1) (mbel_alloc w1 _))) i hi)).mono ?_; rintro e w2 ⟨rfl, hw'⟩; obtain rfl := hw'.symm; rw [HS.out])
    | (go_at_call 40; refine (elements_any 41 (enters_of Try.func41 (by kernel_rfl) rfl) #[.pointer (some ⟨w1.heap.size, 0, none⟩), .pointer (some ⟨w.heap.size, 0, none⟩)] n (fun i => opf op (elAt l X (M + 1) i 0) (elAt l X (M + 1) i 1) (elAt l X (M + 1) i 2)) hn _ (fun i v hi hv => apply1_any (.func (.func kD) #[] capD) (opf op) i w1.heap.size w.heap.size b o (M + 1) cq P l c X HL.out.2.2.2 hm3 (by omega) HL.out.2.1 (fun j hj => shp_place HL.out.2.2.1 (by omega) hi) v (HL.out.1.below (bel (bel (bel (mbel_alloc w _) hb1) (mbel_alloc w1 _)) hv)) (HD.out.below (bel (mbel_alloc w1 _) hv)) ((hv.cell (by simp)).trans (by simp)) ((hv.cell (by simp; omega)).trans (((mbel_alloc w1 _).cell s1).trans a1)))).mono ?_; rintro e w2 ⟨g, rfl, hg, hr, hb2⟩; have HR : Hid (w2.rowIs g 38 n (fun i => .int .u32 (opf op (elAt l X (M + 1) i 0) (elAt l X (M + 1) i 1) (elAt l X (M + 1) i 2)))) := hr; clear hr))
  go_returns
  exact ⟨_, rfl, by have : w1.heap.size + 1 ≤ g := by simpa using hg
                    omega, HR.out, bel (bel (bel (mbel_alloc w _) hb1) (mbel_alloc w1 _)) hb2⟩

set_option maxRecDepth 100000 in
set_option maxHeartbeats 1000000 in
theorem apply_shape (op : Int) (h0 : takes op ≠ 0) (b o m cq : Nat) (hm : takes op = m) (P : Nat → Option Addr) (l c : Nat → Nat) (X : Nat → Nat → Int) (hl : ∀ i, l i ≤ 1048576) (hc : m ≤ cq) (hs : shp l (m - 1) = none) (w : World) (hL : Lsts .u32 w (some ⟨b, o, none⟩) m P l c X) :
    Calls Try.prog 10 #[.int .i64 op, .slice (some ⟨b, o, none⟩) m cq] w fun e w' => e = .returned (.tuple #[.slice none 0 0, .int .i64 50]) ∧ Below w.heap.size w w' := by
  have HL : Hid (Lsts .u32 w (some ⟨b, o, none⟩) m P l c X ∧ (∀ i, l i ≤ 1048576)) := ⟨hL, hl⟩
  have hm3 : m ≤ 3 := by rw [← hm]; exact takes_le op
  have ht : ¬ ((m : Int) = 0) := by omega
  have H0 : Hid (takes op ≠ 0) := h0
  have HM : Hid (takes op = m) := hm
  obtain ⟨M, rfl⟩ : ∃ M, m = M + 1 := ⟨m - 1, by omega⟩
  have HS : Hid (shp l M = none) := hs
  clear hL hl hs h0 hm
  go_enter Try.func10, Try.ntmps10
  go_wp2_with (first
    | (go_at_call 38; refine (instr_any op H0.out _).mono ?_; rintro e w1 ⟨D, rfl, hD, hb1⟩; rw [HM.out]; have hD' := hD; obtain ⟨kD, capD, rfl, -, -⟩ := hD'; have a1 : w1.cell? ⟨w.heap.size, 0, none⟩ = some (.slice (some ⟨b, o, none⟩) (M + 1) cq) := (hb1.cell (by simp)).trans (by simp); have s1 : w.heap.size < w1.heap.size := mcell_lt a1; have s2 : w.heap.size ≠ w1.heap.size := (by omega); clear hD)
    | (go_at_call 39; refine (shape_any b o M cq P l c (by omega) HL.out.2 hc _ (fun i hi => lsts_head (HL.out.1.below (bel (bel (mbel_alloc w _) hb1) (mbel_alloc w1 _))) i hi)).mono ?_; rintro e w2 ⟨rfl, hw'⟩; obtain rfl := hw'.symm; rw [HS.out]))
  go_returns
  exact ⟨rfl, bel (bel (mbel_alloc w _) hb1) (mbel_alloc w1 _)⟩

set_option maxRecDepth 100000 in
set_option maxHeartbeats 1000000 in
theorem apply_arg (op : Int) (q : Option Addr) (m cq : Nat) (hm : m ≤ 1048576) (h : takes op = 0 ∨ takes op ≠ m) (w : World) :
    Calls Try.prog 10 #[.int .i64 op, .slice q m cq] w fun e w' => e = .returned (.tuple #[.slice none 0 0, .int .i64 1]) ∧ Below w.heap.size w w' := by
  by_cases h0 : takes op = 0
  · have H0 : Hid (takes op = 0) := h0
    clear h h0
    go_enter Try.func10, Try.ntmps10
    go_wp2_with (go_at_call 38; refine (instr_no op H0.out _).mono ?_; rintro e w1 ⟨rfl, hw'⟩; obtain rfl := hw'.symm)
    go_returns
    exact ⟨rfl, bel (mbel_alloc w _) (mbel_alloc _ _)⟩
  · obtain ⟨t, ht⟩ : ∃ t, t = takes op := ⟨_, rfl⟩
    have hne : t ≠ m := by omega
    have ht3 : t ≤ 3 := by rw [ht]; exact takes_le op
    have H0 : Hid (takes op ≠ 0 ∧ t = takes op) := ⟨h0, ht⟩
    have n1 : ¬ ((t : Int) = 0) := by omega
    have n2 : ¬ ((t : Int) = (m : Int)) := by omega
    have n3 : ((t : Int) != (m : Int)) = true := by simp [n2]
    clear h h0 ht
    go_enter Try.func10, Try.ntmps10
    go_wp2_with (go_at_call 38; refine (instr_any op H0.out.1 _).mono ?_; rintro e w1 ⟨D, rfl, hD, hb1⟩; rw [← H0.out.2]; have hD' := hD; obtain ⟨kD, capD, rfl, -, -⟩ := hD'; have a1 : w1.cell? ⟨w.heap.size, 0, none⟩ = some (.slice q m cq) := (hb1.cell (by simp)).trans (by simp); have s1 : w.heap.size < w1.heap.size := mcell_lt a1; have s2 : w.heap.size ≠ w1.heap.size := (by omega); clear hD)
    all_goals first
      | (go_returns; exact ⟨rfl, bel (bel (mbel_alloc w _) hb1) (mbel_alloc w1 _)⟩)
      | (have hq : ((t : Int) == 0) = false ∧ ((t : Int) != (m : Int)) = false := by assumption
         rw [n3] at hq; cases hq.2)

end Go.Proofs.Ytpidcmfmdgppbaa
