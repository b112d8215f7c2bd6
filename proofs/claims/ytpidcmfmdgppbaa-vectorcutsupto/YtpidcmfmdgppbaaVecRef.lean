import Derived.Test.YtpidcmfmdgppbaaVecLaw
import Derived.Deep.RegionHeld3
/- Layer 5: the document's answers: sums and ends. -/
namespace Go.Proofs.Ytpidcmfmdgppbaa
open Go.RowKit
set_option linter.unusedVariables false

set_option maxHeartbeats 1000000 in
theorem vrsum_any (p : Option Addr) (n c : Nat) (X : Nat → Int) (hX : ∀ i, IsP (X i)) (hn : n ≤ 1048576) (w : World) (hp : Reads w p n (fun i => .int .i64 (X i))) :
    Calls Try.prog 20 #[.slice p n c] w fun e w' => e = .returned (.int .i64 (fsum X n)) ∧ Below w.heap.size w w' := by
  go_enter Try.func20, Try.ntmps20
  go_wp2
  go_loopw [3, 4] (fun sv iv wr => Below w.heap.size w wr ∧ ∃ j : Nat, j ≤ n ∧ iv = .int .i64 j ∧ sv = .int .i64 (fsum X j)) (fun _ iv _ => n - (intOf iv).toNat)
  case atStart => exact ⟨bel0 w, 0, Nat.zero_le _, rfl, rfl⟩
  case round =>
    obtain ⟨hb, j, hj, rfl, rfl⟩ := hrel
    by_cases hlt : j < n
    · rcases hp with hp | ⟨b, o, rfl, hp⟩
      · omega
      have hbl : b < w.heap.size := mcell_lt (hp j hlt)
      have h1 : wr.cell? ⟨b, o + j, none⟩ = some (.int .i64 (X j)) := (hb.cell hbl).trans (hp j hlt)
      have i1 : (0 : Int) ≤ (j : Int) := by omega
      have i2 : (j : Int) < (n : Int) := by omega
      have s1 : IsP (fsum X j) := foldx_lo (fun _ _ _ _ => isP_add _ _) (by unfold IsP; decide) hX j
      have x1 := hX j
      clear hp hX
      go_wp2_with (go_at_call 47; refine (radd_any _ s1.1 s1.2 _ x1.1 x1.2 _).mono ?_; rintro e w1 ⟨rfl, hb1⟩)
      go_roundw
      case rel => exact ⟨bel hb hb1, j + 1, by omega, by go_num, rfl⟩
      case measure => simp [intOf]; omega
    · have : j = n := by omega
      subst this
      clear hp hX
      go_wp2
      go_ret
      exact ⟨rfl, hb⟩

set_option maxHeartbeats 1000000 in
theorem rleast_any (p : Option Addr) (n c : Nat) (X : Nat → Int) (hX : ∀ i, IsP (X i)) (hn : n ≤ 1048576) (w : World) (hp : Reads w p n (fun i => .int .i64 (X i))) :
    Calls Try.prog 30 #[.slice p n c] w fun e w' => e = .returned (.int .i64 (fleast X n)) ∧ Below w.heap.size w w' := by
  go_enter Try.func30, Try.ntmps30
  go_wp2
  go_loopw [3, 4] (fun sv iv wr => Below w.heap.size w wr ∧ ∃ j : Nat, j ≤ n ∧ iv = .int .i64 j ∧ sv = .int .i64 (fleast X j)) (fun _ iv _ => n - (intOf iv).toNat)
  case atStart => exact ⟨bel0 w, 0, Nat.zero_le _, rfl, rfl⟩
  case round =>
    obtain ⟨hb, j, hj, rfl, rfl⟩ := hrel
    by_cases hlt : j < n
    · rcases hp with hp | ⟨b, o, rfl, hp⟩
      · omega
      have hbl : b < w.heap.size := mcell_lt (hp j hlt)
      have h1 : wr.cell? ⟨b, o + j, none⟩ = some (.int .i64 (X j)) := (hb.cell hbl).trans (hp j hlt)
      have i1 : (0 : Int) ≤ (j : Int) := by omega
      have i2 : (j : Int) < (n : Int) := by omega
      have s1 : IsP (fleast X j) := foldx_lo isP_min (by unfold IsP; decide) hX j
      have x1 := hX j
      clear hp hX
      go_wp2_with (go_at_call 63; refine (rmin_any _ s1.1 s1.2 _ x1.1 x1.2 _).mono ?_; rintro e w1 ⟨rfl, hb1⟩)
      go_roundw
      case rel => exact ⟨bel hb hb1, j + 1, by omega, by go_num, rfl⟩
      case measure => simp [intOf]; omega
    · have : j = n := by omega
      subst this
      clear hp hX
      go_wp2
      go_ret
      exact ⟨rfl, hb⟩

set_option maxHeartbeats 1000000 in
theorem rmost_any (p : Option Addr) (n c : Nat) (X : Nat → Int) (hX : ∀ i, IsP (X i)) (hn : n ≤ 1048576) (w : World) (hp : Reads w p n (fun i => .int .i64 (X i))) :
    Calls Try.prog 32 #[.slice p n c] w fun e w' => e = .returned (.int .i64 (fmost X n)) ∧ Below w.heap.size w w' := by
  go_enter Try.func32, Try.ntmps32
  go_wp2
  go_loopw [3, 4] (fun sv iv wr => Below w.heap.size w wr ∧ ∃ j : Nat, j ≤ n ∧ iv = .int .i64 j ∧ sv = .int .i64 (fmost X j)) (fun _ iv _ => n - (intOf iv).toNat)
  case atStart => exact ⟨bel0 w, 0, Nat.zero_le _, rfl, rfl⟩
  case round =>
    obtain ⟨hb, j, hj, rfl, rfl⟩ := hrel
    by_cases hlt : j < n
    · rcases hp with hp | ⟨b, o, rfl, hp⟩
      · omega
      have hbl : b < w.heap.size := mcell_lt (hp j hlt)
      have h1 : wr.cell? ⟨b, o + j, none⟩ = some (.int .i64 (X j)) := (hb.cell hbl).trans (hp j hlt)
      have i1 : (0 : Int) ≤ (j : Int) := by omega
      have i2 : (j : Int) < (n : Int) := by omega
      have s1 : IsP (fmost X j) := foldx_lo isP_max (by unfold IsP; decide) hX j
      have x1 := hX j
      clear hp hX
      go_wp2_with (go_at_call 65; refine (rmax_any _ s1.1 s1.2 _ x1.1 x1.2 _).mono ?_; rintro e w1 ⟨rfl, hb1⟩)
      go_roundw
      case rel => exact ⟨bel hb hb1, j + 1, by omega, by go_num, rfl⟩
      case measure => simp [intOf]; omega
    · have : j = n := by omega
      subst this
      clear hp hX
      go_wp2
      go_ret
      exact ⟨rfl, hb⟩

set_option maxRecDepth 100000 in
set_option maxHeartbeats 1600000 in
theorem rsquares_any (p : Option Addr) (n c : Nat) (X : Nat → Int) (hX : ∀ i, IsP (X i)) (hn : n ≤ 1048576) (w : World) (hp : Reads w p n (fun i => .int .i64 (X i))) :
    Calls Try.prog 22 #[.slice p n c] w fun e w' => e = .returned (.int .i64 (fdot X X n)) ∧ Below w.heap.size w w' := by
  go_enter Try.func22, Try.ntmps22
  go_wp2
  go_loopw [3, 4] (fun sv iv wr => Below w.heap.size w wr ∧ ∃ j : Nat, j ≤ n ∧ iv = .int .i64 j ∧ sv = .int .i64 (fdot X X j)) (fun _ iv _ => n - (intOf iv).toNat)
  case atStart => exact ⟨bel0 w, 0, Nat.zero_le _, rfl, rfl⟩
  case round =>
    obtain ⟨hb, j, hj, rfl, rfl⟩ := hrel
    by_cases hlt : j < n
    · rcases hp with hp | ⟨b, o, rfl, hp⟩
      · omega
      have hbl : b < w.heap.size := mcell_lt (hp j hlt)
      have h1 : wr.cell? ⟨b, o + j, none⟩ = some (.int .i64 (X j)) := (hb.cell hbl).trans (hp j hlt)
      have hbw : b < wr.heap.size := mcell_lt h1
      have i1 : (0 : Int) ≤ (j : Int) := by omega
      have i2 : (j : Int) < (n : Int) := by omega
      have s1 := isP_dot X X j
      have x1 := hX j
      have m1 := isP_mul (X j) (X j)
      clear hp hX
      go_wp2
      go_region_held3 (fun w' => w'.cell? ⟨b, o + j, none⟩ = some (.int .i64 (X j))) (go_keep) (first
        | (go_at_call 48; refine (rmul_any _ x1.1 x1.2 _ x1.1 x1.2 _).mono ?_; rintro e w1 ⟨rfl, hb1⟩; have c1 : w1.cell? ⟨b, o + j, none⟩ = some (.int .i64 (X j)) := (hb1.cell hbw).trans h1)
        | (go_at_call 47; refine (radd_any _ s1.1 s1.2 _ m1.1 m1.2 _).mono ?_; rintro e w2 ⟨rfl, hb2⟩; have c2 : w2.cell? ⟨b, o + j, none⟩ = some (.int .i64 (X j)) := (hb2.cell (mcell_lt c1)).trans c1))
      go_wp2
      go_roundw
      case rel => exact ⟨bel (bel (bel hb (belD _)) hb1) hb2, j + 1, by omega, by go_num, rfl⟩
      case measure => simp [intOf]; omega
    · have : j = n := by omega
      subst this
      clear hp hX
      go_wp2
      go_ret
      exact ⟨rfl, hb⟩

set_option maxRecDepth 100000 in
set_option maxHeartbeats 1600000 in
theorem rdot_same (p q : Option Addr) (n c c' : Nat) (X Y : Nat → Int) (hX : ∀ i, IsP (X i)) (hY : ∀ i, IsP (Y i)) (hn : n ≤ 1048576) (w : World) (hp : Reads w p n (fun i => .int .i64 (X i))) (hq : Reads w q n (fun i => .int .i64 (Y i))) :
    Calls Try.prog 17 #[.slice p n c, .slice q n c'] w fun e w' => e = .returned (.tuple #[.int .i64 (fdot X Y n), .int .i64 0]) ∧ Below w.heap.size w w' := by
  go_enter Try.func17, Try.ntmps17
  go_wp2
  go_loopw [6, 7] (fun sv iv wr => Below w.heap.size w wr ∧ ∃ j : Nat, j ≤ n ∧ iv = .int .i64 j ∧ sv = .int .i64 (fdot X Y j)) (fun _ iv _ => n - (intOf iv).toNat)
  case atStart => exact ⟨bel0 w, 0, Nat.zero_le _, rfl, rfl⟩
  case round =>
    obtain ⟨hb, j, hj, rfl, rfl⟩ := hrel
    by_cases hlt : j < n
    · rcases hp with hp | ⟨b, o, rfl, hp⟩
      · omega
      rcases hq with hq | ⟨b', o', rfl, hq⟩
      · omega
      have h1 : wr.cell? ⟨b, o + j, none⟩ = some (.int .i64 (X j)) := (hb.cell (mcell_lt (hp j hlt))).trans (hp j hlt)
      have h2 : wr.cell? ⟨b', o' + j, none⟩ = some (.int .i64 (Y j)) := (hb.cell (mcell_lt (hq j hlt))).trans (hq j hlt)
      have hbw : b < wr.heap.size := mcell_lt h1
      have hbw' : b' < wr.heap.size := mcell_lt h2
      have i1 : (0 : Int) ≤ (j : Int) := by omega
      have i2 : (j : Int) < (n : Int) := by omega
      have s1 := isP_dot X Y j
      have x1 := hX j
      have y1 := hY j
      have m1 := isP_mul (X j) (Y j)
      clear hp hq hX hY
      go_wp2
      go_region_held3 (fun w' => w'.cell? ⟨b, o + j, none⟩ = some (.int .i64 (X j)) ∧ w'.cell? ⟨b', o' + j, none⟩ = some (.int .i64 (Y j))) (go_keep) (first
        | (go_at_call 48; refine (rmul_any _ x1.1 x1.2 _ y1.1 y1.2 _).mono ?_; rintro e w1 ⟨rfl, hb1⟩; have c1 : w1.cell? ⟨b, o + j, none⟩ = some (.int .i64 (X j)) := (hb1.cell hbw).trans h1; have d1 : w1.cell? ⟨b', o' + j, none⟩ = some (.int .i64 (Y j)) := (hb1.cell hbw').trans h2)
        | (go_at_call 47; refine (radd_any _ s1.1 s1.2 _ m1.1 m1.2 _).mono ?_; rintro e w2 ⟨rfl, hb2⟩; have c2 : w2.cell? ⟨b, o + j, none⟩ = some (.int .i64 (X j)) := (hb2.cell (mcell_lt c1)).trans c1; have d2 : w2.cell? ⟨b', o' + j, none⟩ = some (.int .i64 (Y j)) := (hb2.cell (mcell_lt d1)).trans d1))
      go_wp2
      go_roundw
      case rel => exact ⟨bel (bel (bel hb (belD _)) hb1) hb2, j + 1, by omega, by go_num, rfl⟩
      case measure => simp [intOf]; omega
    · have : j = n := by omega
      subst this
      clear hp hq hX hY
      go_wp2
      go_returns
      exact ⟨rfl, hb⟩

set_option maxHeartbeats 400000 in
theorem rdot_other (p q : Option Addr) (n m c c' : Nat) (h : n ≠ m) (hn : n ≤ 1048576) (hm : m ≤ 1048576) (w : World) :
    Calls Try.prog 17 #[.slice p n c, .slice q m c'] w fun e w' => e = .returned (.tuple #[.int .i64 0, .int .i64 50]) ∧ w' = w := by
  have h1 : ¬ ((n : Int) = (m : Int)) := by omega
  go_enter Try.func17, Try.ntmps17
  go_wp2
  go_returns
  exact ⟨rfl, rfl⟩

set_option maxHeartbeats 400000 in
theorem rmean_any (p : Option Addr) (n c : Nat) (X : Nat → Int) (hX : ∀ i, IsP (X i)) (hn : n ≤ 1048576) (w : World) (hp : Reads w p n (fun i => .int .i64 (X i))) :
    Calls Try.prog 24 #[.slice p n c] w fun e w' => e = .returned (.int .i64 (fmean X n)) ∧ Below w.heap.size w w' := by
  have s1 := isP_sum X n hX
  have s2 := ffrom_lo n
  go_enter Try.func24, Try.ntmps24
  go_wp2_with (first
    | (go_at_call 20; refine (vrsum_any _ _ _ X hX hn _ hp).mono ?_; rintro e w1 ⟨rfl, hb1⟩)
    | (go_at_call 54; refine (rfrom_any _ (by omega) (by omega) _).mono ?_; rintro e w2 ⟨rfl, hw2⟩; obtain rfl := hw2.symm)
    | (go_at_call 53; refine (rdiv_any _ s1.1 s1.2 _ s2.1 s2.2 _).mono ?_; rintro e w3 ⟨rfl, hb3⟩))
  go_ret
  exact ⟨rfl, bel hb1 hb3⟩

set_option maxHeartbeats 400000 in
theorem rfin1_any (a : Int) (h : IsP a) (w : World) :
    Calls Try.prog 69 #[.int .i64 a] w fun e w' => e = .returned (.bool (ffin a)) ∧ w' = w := by
  have h0 := h.1
  have h1 := h.2
  have t1 : a.tmod 2147483648 = a % 2147483648 := Int.tmod_eq_emod_of_nonneg h0
  go_enter Try.func69, Try.ntmps69
  go_wp2
  go_ret
  exact ⟨rfl, rfl⟩

end Go.Proofs.Ytpidcmfmdgppbaa
