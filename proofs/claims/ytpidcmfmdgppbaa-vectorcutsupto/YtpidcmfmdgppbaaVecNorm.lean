import Derived.Test.YtpidcmfmdgppbaaVecLists
/- Norm; the document's Norm, Finite, Canon, Fill. -/
namespace Go.Proofs.Ytpidcmfmdgppbaa
open Go.RowKit
set_option linter.unusedVariables false

set_option maxHeartbeats 400000 in
theorem norm1_any (s : Int) (hs : IsP s) (p : Option Addr) (n c : Nat) (X : Nat → Int) (hX : ∀ i, IsP (X i)) (hn : n ≤ 1048576) (w : World) (hp : Reads w p n (fun i => .int .u32 (X i))) :
    Calls Try.prog 57 #[.int .u32 s, .slice p n c] w fun e w' => e = .returned (.int .u32 (fadd s (fdot X X n))) ∧ Below w.heap.size w w' := by
  have d1 := isP_dot X X n
  go_enter Try.func57, Try.ntmps57
  go_wp2_with (first
    | (go_at_call 21; refine (squares_any _ _ _ X hX hn _ hp).mono ?_; rintro e w1 ⟨rfl, hb1⟩)
    | (go_at_call 50; refine (add_any _ hs.1 hs.2 _ d1.1 d1.2 _).mono ?_; rintro e w2 ⟨rfl, hb2⟩))
  go_ret
  exact ⟨rfl, bel hb1 hb2⟩

def fnorms (X : Nat → Nat → Int) (l : Nat → Nat) (m : Nat) : Int := foldx fadd 0 (fun i => fdot (X i) (X i) (l i)) m
theorem isP_norms (X : Nat → Nat → Int) (l : Nat → Nat) (m : Nat) : IsP (fnorms X l m) := foldx_lo (fun _ _ _ _ => fadd_lo _ _) isP_0 (fun _ => isP_dot _ _ _) m

set_option maxHeartbeats 1000000 in
theorem gatherL_any (q : Option Addr) (m cq : Nat) (P : Nat → Option Addr) (l c : Nat → Nat) (X : Nat → Nat → Int) (hX : ∀ i j, IsP (X i j)) (hm : m ≤ 1048576) (hl : ∀ i, l i ≤ 1048576) (w : World) (hL : Lsts .u32 w q m P l c X) :
    Calls Try.prog 56 #[.int .u32 0, .slice q m cq, .func (.func 57) #[] #[]] w fun e w' => e = .returned (.int .u32 (fnorms X l m)) ∧ Below w.heap.size w w' := by
  have HL : Hid (Lsts .u32 w q m P l c X ∧ (∀ i j, IsP (X i j)) ∧ (∀ i, l i ≤ 1048576)) := ⟨hL, hX, hl⟩
  have hh := hL.heads
  clear hL hX hl
  go_enter Try.func56, Try.ntmps56
  go_wp2
  go_loopw [0, 11] (fun sv iv wr => Below w.heap.size w wr ∧ ∃ j : Nat, j ≤ m ∧ iv = .int .i64 j ∧ sv = .int .u32 (fnorms X l j)) (fun _ iv _ => m - (intOf iv).toNat)
  case atStart => exact ⟨bel0 w, 0, Nat.zero_le _, rfl, rfl⟩
  case round =>
    obtain ⟨hb, j, hj, rfl, rfl⟩ := hrel
    by_cases hlt : j < m
    · rcases hh with hh | ⟨b, o, rfl, hh⟩
      · omega
      have h1 : wr.cell? ⟨b, o + j, none⟩ = some (.slice (P j) (l j) (c j)) := (hb.cell (mcell_lt (hh j hlt))).trans (hh j hlt)
      have i1 : (0 : Int) ≤ (j : Int) := by omega
      have i2 : (j : Int) < (m : Int) := by omega
      have HPK : Hid (Reads wr (P j) (l j) (fun i => .int .u32 (X j i))) := (HL.out.1.parts j hlt).below hb
      clear hh
      go_wp2_with (go_at_call 57; refine (norm1_any _ (isP_norms X l j) _ _ _ (X j) (HL.out.2.1 j) (HL.out.2.2 j) _ HPK.out).mono ?_; rintro e w1 ⟨rfl, hb1⟩)
      go_roundw
      case rel => exact ⟨bel hb hb1, j + 1, by omega, by go_num, rfl⟩
      case measure => simp [intOf]; omega
    · have : j = m := by omega
      subst this
      clear hh
      go_wp2
      go_ret
      exact ⟨rfl, hb⟩

set_option maxHeartbeats 400000 in
theorem norm_any (q : Option Addr) (m cq : Nat) (P : Nat → Option Addr) (l c : Nat → Nat) (X : Nat → Nat → Int) (hX : ∀ i j, IsP (X i j)) (hm : m ≤ 1048576) (hl : ∀ i, l i ≤ 1048576) (w : World) (hL : Lsts .u32 w q m P l c X) :
    Calls Try.prog 25 #[.slice q m cq] w fun e w' => e = .returned (.int .u32 (fsqrt (fnorms X l m))) ∧ Below w.heap.size w w' := by
  have d1 := isP_norms X l m
  have HL : Hid (Lsts .u32 w q m P l c X ∧ (∀ i j, IsP (X i j)) ∧ (∀ i, l i ≤ 1048576)) := ⟨hL, hX, hl⟩
  clear hL hX hl
  go_enter Try.func25, Try.ntmps25
  go_wp2_with (first
    | (go_at_call 56; refine (gatherL_any _ _ _ P l c X HL.out.2.1 hm HL.out.2.2 _ HL.out.1).mono ?_; rintro e w1 ⟨rfl, hb1⟩)
    | (go_at_call 55; refine (sqrt_any _ d1.1 d1.2 _).mono ?_; rintro e w2 ⟨rfl, hb2⟩))
  go_ret
  exact ⟨rfl, bel hb1 hb2⟩

set_option maxHeartbeats 1000000 in
theorem rnorm_any (q : Option Addr) (m cq : Nat) (P : Nat → Option Addr) (l c : Nat → Nat) (X : Nat → Nat → Int) (hX : ∀ i j, IsP (X i j)) (hm : m ≤ 1048576) (hl : ∀ i, l i ≤ 1048576) (w : World) (hL : Lsts .i64 w q m P l c X) :
    Calls Try.prog 26 #[.slice q m cq] w fun e w' => e = .returned (.int .i64 (fsqrt (fnorms X l m))) ∧ Below w.heap.size w w' := by
  have HL : Hid (Lsts .i64 w q m P l c X ∧ (∀ i j, IsP (X i j)) ∧ (∀ i, l i ≤ 1048576)) := ⟨hL, hX, hl⟩
  have hh := hL.heads
  clear hL hX hl
  go_enter Try.func26, Try.ntmps26
  go_wp2
  go_loopw [3, 4] (fun sv iv wr => Below w.heap.size w wr ∧ ∃ j : Nat, j ≤ m ∧ iv = .int .i64 j ∧ sv = .int .i64 (fnorms X l j)) (fun _ iv _ => m - (intOf iv).toNat)
  case atStart => exact ⟨bel0 w, 0, Nat.zero_le _, rfl, rfl⟩
  case round =>
    obtain ⟨hb, j, hj, rfl, rfl⟩ := hrel
    have d1 := isP_norms X l j
    by_cases hlt : j < m
    · rcases hh with hh | ⟨b, o, rfl, hh⟩
      · omega
      have h1 : wr.cell? ⟨b, o + j, none⟩ = some (.slice (P j) (l j) (c j)) := (hb.cell (mcell_lt (hh j hlt))).trans (hh j hlt)
      have i1 : (0 : Int) ≤ (j : Int) := by omega
      have i2 : (j : Int) < (m : Int) := by omega
      have HPK : Hid (Reads wr (P j) (l j) (fun i => .int .i64 (X j i))) := (HL.out.1.parts j hlt).below hb
      have e1 := isP_dot (X j) (X j) (l j)
      clear hh
      go_wp2_with (first
        | (go_at_call 22; refine (rsquares_any _ _ _ (X j) (HL.out.2.1 j) (HL.out.2.2 j) _ HPK.out).mono ?_; rintro e w1 ⟨rfl, hb1⟩)
        | (go_at_call 47; refine (radd_any _ d1.1 d1.2 _ e1.1 e1.2 _).mono ?_; rintro e w2 ⟨rfl, hb2⟩))
      go_roundw
      case rel => exact ⟨bel (bel hb hb1) hb2, j + 1, by omega, by go_num, rfl⟩
      case measure => simp [intOf]; omega
    · have : j = m := by omega
      subst this
      clear hh
      go_wp2_with (go_at_call 58; refine (rsqrt_any _ d1.1 d1.2 _).mono ?_; rintro e w2 ⟨rfl, hb2⟩)
      go_ret
      exact ⟨rfl, bel hb hb2⟩

set_option maxHeartbeats 1000000 in
theorem rfinites_any (p : Option Addr) (n c : Nat) (X : Nat → Int) (hX : ∀ i, IsP (X i)) (hn : n ≤ 1048576) (w : World) (hp : Reads w p n (fun i => .int .i64 (X i))) :
    Calls Try.prog 34 #[.slice p n c] w fun e w' => e = .returned (.bool (allfin X n)) ∧ w' = w := by
  go_enter Try.func34, Try.ntmps34
  go_wp2
  go_loopw [3] (fun iv wr => wr = w ∧ ∃ j : Nat, j ≤ n ∧ iv = .int .i64 j ∧ Hid (allfin X j = true)) (fun iv _ => n - (intOf iv).toNat)
  case atStart => exact ⟨rfl, 0, Nat.zero_le _, rfl, rfl⟩
  case round =>
    obtain ⟨rfl, j, hj, rfl, hall⟩ := hrel
    by_cases hlt : j < n
    · rcases hp with hp | ⟨b, o, rfl, hp⟩
      · omega
      have h1 := hp j hlt
      have i1 : (0 : Int) ≤ (j : Int) := by omega
      have i2 : (j : Int) < (n : Int) := by omega
      have x1 := hX j
      clear hp hX
      cases hf : ffin (X j)
      · have HA : Hid (allfin X n = false) := allfin_false hlt hf
        go_wp2_with (go_at_call 69; refine (rfin1_any _ x1 _).mono ?_; rintro e w' ⟨rfl, hw'⟩; obtain rfl := hw'.symm; rw [hf])
        go_ret
        exact ⟨by rw [HA.out]; rfl, rfl⟩
      · have HA : Hid (allfin X (j + 1) = true) := by show (allfin X j && ffin (X j)) = true; rw [hall.out, hf]; rfl
        go_wp2_with (go_at_call 69; refine (rfin1_any _ x1 _).mono ?_; rintro e w' ⟨rfl, hw'⟩; obtain rfl := hw'.symm; rw [hf])
        go_roundw
        case rel => exact ⟨by first | rfl | trivial, j + 1, by omega, by go_num, HA⟩
        case measure => simp [intOf]; omega
    · have : j = n := by omega
      subst this
      clear hp hX
      go_wp2
      go_ret
      exact ⟨by rw [hall.out]; rfl, rfl⟩

set_option maxHeartbeats 1000000 in
theorem rcanons_any (p : Option Addr) (n c : Nat) (X : Nat → Int) (hX : ∀ i, IsP (X i)) (hn : n ≤ 1048576) (w : World) (hp : Reads w p n (fun i => .int .i64 (X i))) :
    Calls Try.prog 36 #[.slice p n c] w fun e w' => ∃ q cap, e = .returned (.slice q n cap) ∧ Reads w' q n (fun i => .int .i64 (canon (X i))) ∧ Below w.heap.size w w' := by
  obtain ⟨i0, hi0, hz0, hz1, hz2⟩ := info_parts info_I
  go_enter Try.func36, Try.ntmps36
  go_wp2
  go_loopw [3, 4] (fun ov iv wr => Below w.heap.size w wr ∧ ∃ (k : Nat) (v : Value), v = ov ∧ k ≤ n ∧ iv = .int .i64 k ∧ Hid (wr.ownsRow w.heap.size 3 1 v k (vals (fun i => .int .i64 (canon (X i))) k))) (fun _ iv _ => n - (intOf iv).toNat)
  case atStart => exact ⟨bel0 w, 0, _, rfl, Nat.zero_le _, rfl, World.ownsRow_nil _ _ _ _⟩
  case round =>
    obtain ⟨hb, k, ov, rfl, hk, rfl, hown⟩ := hrel
    by_cases hlt : k < n
    · rcases hp with hp | ⟨b, o, rfl, hp⟩
      · omega
      have h1 : wr.cell? ⟨b, o + k, none⟩ = some (.int .i64 (X k)) := (hb.cell (mcell_lt (hp k hlt))).trans (hp k hlt)
      have i1 : (0 : Int) ≤ (k : Int) := by omega
      have i2 : (k : Int) < (n : Int) := by omega
      have x1 := hX k
      have sz := hb.size
      have hob : Hid (∀ j, ov.ownBlock = some j → w.heap.size ≤ j ∧ j < wr.heap.size) := hown.out.lt
      clear hp hX
      go_wp2_with (first
        | (go_at_call 61; refine (rcanon_any _ x1.1 x1.2 _).mono ?_; rintro e w0 ⟨rfl, hw'⟩; obtain rfl := hw'.symm)
        | (at_builtin; refine wpList_append_own _ rfl _ _ 28 rfl w.heap.size 3 i0 _ 1 8 Try.underlying28 hi0 hz0 hz1 hz2 rfl (by decide) ov k (vals (fun i => .int .i64 (canon (X i))) k) rfl (hown.out.alloc _) ⟨wr.heap.size, 0, none⟩ 1 1 [.int .i64 (canon (X k))] rfl rfl (World.news_of_block (cs := #[.int .i64 (canon (X k))]) (t := 3) (fr := (0, 0)) (heap_alloc_new wr _)) (by simp [Value.oneCell']) (by unfold maxLen; omega) (by omega) (by simp; omega) ?_; intro v' w1 hown1 hgrow hnil; have HB : Below w.heap.size w w1 := Below.grown (hb.alloc sz _) hgrow (by simp; omega) (fun j e => (hob.out j e).1); have HO : Hid (w1.ownsRow w.heap.size 3 1 v' (k + 1) (vals (fun i => .int .i64 (canon (X i))) k ++ [.int .i64 (canon (X k))])) := hown1; clear hown1 hgrow hnil))
      go_roundw
      case rel => exact ⟨HB, k + 1, _, rfl, by omega, by go_num, by rw [vals_succ]; exact HO⟩
      case measure => simp [intOf]; omega
    · have : k = n := by omega
      subst this
      obtain ⟨q, cap, rfl, hR, hg, -⟩ := own_form2 hown.out
      have HR : Hid (Reads wr q k (fun i => .int .i64 (canon (X i)))) := hR
      clear hp hX hR hg hown
      go_wp2
      go_ret
      exact ⟨_, _, rfl, HR.out, hb⟩

set_option maxRecDepth 100000 in
set_option maxHeartbeats 1000000 in
theorem rfill_some (n : Nat) (x : Int) (hx : IsP x) (hn : n ≤ 65536) (w : World) :
    Calls Try.prog 28 #[.int .i64 n, .int .i64 x] w fun e w' => ∃ q cap, e = .returned (.tuple #[.slice q n cap, .int .i64 0]) ∧ Reads w' q n (fun i => .int .i64 (canon x)) ∧ Below w.heap.size w w' := by
  obtain ⟨i0, hi0, hz0, hz1, hz2⟩ := info_parts info_I
  have h1 : ¬ ((n : Int) < 0) := by omega
  have h2 : (n : Int) ≤ 65536 := by omega
  go_enter Try.func28, Try.ntmps28
  go_wp2
  go_loopw [6, 7] (fun ov iv wr => Below w.heap.size w wr ∧ ∃ (k : Nat) (v : Value), v = ov ∧ k ≤ n ∧ iv = .int .i64 k ∧ Hid (wr.ownsRow w.heap.size 3 1 v k (vals (fun i => .int .i64 (canon x)) k))) (fun _ iv _ => n - (intOf iv).toNat)
  case atStart => exact ⟨bel0 w, 0, _, rfl, Nat.zero_le _, rfl, World.ownsRow_nil _ _ _ _⟩
  case round =>
    obtain ⟨hb, k, ov, rfl, hk, rfl, hown⟩ := hrel
    by_cases hlt : k < n
    · have i1 : (0 : Int) ≤ (k : Int) := by omega
      have i2 : (k : Int) < (n : Int) := by omega
      have sz := hb.size
      have hob : Hid (∀ j, ov.ownBlock = some j → w.heap.size ≤ j ∧ j < wr.heap.size) := hown.out.lt
      go_wp2_with (first
        | (go_at_call 61; refine (rcanon_any _ hx.1 hx.2 _).mono ?_; rintro e w0 ⟨rfl, hw'⟩; obtain rfl := hw'.symm)
        | (at_builtin; refine wpList_append_own _ rfl _ _ 28 rfl w.heap.size 3 i0 _ 1 8 Try.underlying28 hi0 hz0 hz1 hz2 rfl (by decide) ov k (vals (fun i => .int .i64 (canon x)) k) rfl (hown.out.alloc _) ⟨wr.heap.size, 0, none⟩ 1 1 [.int .i64 (canon x)] rfl rfl (World.news_of_block (cs := #[.int .i64 (canon x)]) (t := 3) (fr := (0, 0)) (heap_alloc_new wr _)) (by simp [Value.oneCell']) (by unfold maxLen; omega) (by omega) (by simp; omega) ?_; intro v' w1 hown1 hgrow hnil; have HB : Below w.heap.size w w1 := Below.grown (hb.alloc sz _) hgrow (by simp; omega) (fun j e => (hob.out j e).1); have HO : Hid (w1.ownsRow w.heap.size 3 1 v' (k + 1) (vals (fun i => .int .i64 (canon x)) k ++ [.int .i64 (canon x)])) := hown1; clear hown1 hgrow hnil))
      go_roundw
      case rel => exact ⟨HB, k + 1, _, rfl, by omega, by go_num, by rw [vals_succ]; exact HO⟩
      case measure => simp [intOf]; omega
    · have : k = n := by omega
      subst this
      obtain ⟨q, cap, rfl, hR, hg, -⟩ := own_form2 hown.out
      have HR : Hid (Reads wr q k (fun i => .int .i64 (canon x))) := hR
      clear hR hg hown
      go_wp2
      go_returns
      first | exact ⟨_, _, rfl, HR.out, hb⟩ | exact ⟨_, ⟨_, rfl⟩, HR.out, hb⟩

set_option maxHeartbeats 400000 in
theorem rfill_none (n x : Int) (h0 : -9223372036854775808 ≤ n) (h9 : n ≤ 9223372036854775807) (hn : n < 0 ∨ 65536 < n) (w : World) :
    Calls Try.prog 28 #[.int .i64 n, .int .i64 x] w fun e w' => e = .returned (.tuple #[.slice none 0 0, .int .i64 1]) ∧ w' = w := by
  rcases hn with hn | hn
  · go_enter Try.func28, Try.ntmps28
    go_wp2
    go_returns
    exact ⟨rfl, rfl⟩
  · have h1 : ¬ (n < 0) := by omega
    go_enter Try.func28, Try.ntmps28
    go_wp2
    go_returns
    exact ⟨rfl, rfl⟩

end Go.Proofs.Ytpidcmfmdgppbaa
