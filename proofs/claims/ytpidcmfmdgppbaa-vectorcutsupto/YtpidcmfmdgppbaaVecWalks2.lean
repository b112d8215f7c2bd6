import Derived.Test.YtpidcmfmdgppbaaVecWalks
import Derived.Test.YtpidcmfmdgppbaaVecLaw
/- Package vector: Finite, Canon, Fill, Norm. -/
namespace Go.Proofs.Ytpidcmfmdgppbaa
open Go.RowKit
set_option linter.unusedVariables false

set_option maxHeartbeats 400000 in
theorem fin1_any (a : Int) (h : IsP a) (w : World) :
    Calls Try.prog 67 #[.int .u32 a] w fun e w' => e = .returned (.bool (!ffin a)) ∧ w' = w := by
  go_enter Try.func67, Try.ntmps67
  go_wp2_with (go_at_call 68; refine (finite_any _ h.1 h.2 _).mono ?_; rintro e w' ⟨rfl, rfl⟩)
  go_ret
  exact ⟨rfl, rfl⟩

theorem allfin_false {X : Nat → Int} {j n : Nat} (hj : j < n) (h : ffin (X j) = false) : allfin X n = false := by
  induction n with
  | zero => omega
  | succ n ih =>
    unfold allfin
    rcases Nat.lt_or_ge j n with c | c
    · rw [ih c]; rfl
    · have : j = n := by omega
      subst this; rw [h]; simp

set_option maxHeartbeats 1000000 in
theorem index_any (p : Option Addr) (n c : Nat) (X : Nat → Int) (hX : ∀ i, IsP (X i)) (hn : n ≤ 1048576) (w : World) (hp : Reads w p n (fun i => .int .u32 (X i))) :
    Calls Try.prog 102 #[.slice p n c, .func (.func 67) #[] #[]] w fun e w' => (∃ k : Int, e = .returned (.int .i64 k) ∧ -1 ≤ k ∧ (decide (0 ≤ k)) = !allfin X n) ∧ w' = w := by
  go_enter Try.func102, Try.ntmps102
  go_wp2
  go_loopw [8] (fun iv wr => wr = w ∧ ∃ j : Nat, j ≤ n ∧ iv = .int .i64 j ∧ Hid (allfin X j = true)) (fun iv _ => n - (intOf iv).toNat)
  case atStart => exact ⟨rfl, 0, Nat.zero_le _, rfl, rfl⟩
  case round =>
    obtain ⟨rfl, j, hj, rfl, hall⟩ := hrel
    by_cases hlt : j < n
    · rcases hp with hp | ⟨b, o, rfl, hp⟩
      · omega
      have h1 := hp j hlt
      have i1 : (0 : Int) ≤ (j : Int) := by omega
      have i2 : (j : Int) < (n : Int) := by omega
      have x1 := hX j
      clear hp hX
      cases hf : ffin (X j)
      · have hq : (!ffin (X j)) = true := by rw [hf]; rfl
        have HA : Hid (allfin X n = false) := allfin_false hlt hf
        clear hf
        go_wp2_with (go_at_call 67; refine (fin1_any _ x1 _).mono ?_; rintro e w' ⟨rfl, hw'⟩; obtain rfl := hw'.symm; rw [hq])
        go_ret
        exact ⟨⟨j, rfl, by omega, by rw [HA.out]; simp⟩, rfl⟩
      · have hq : (!ffin (X j)) = false := by rw [hf]; rfl
        have HA : Hid (allfin X (j + 1) = true) := by show (allfin X j && ffin (X j)) = true; rw [hall.out, hf]; rfl
        clear hf
        go_wp2_with (go_at_call 67; refine (fin1_any _ x1 _).mono ?_; rintro e w' ⟨rfl, hw'⟩; obtain rfl := hw'.symm; rw [hq])
        go_roundw
        case rel => exact ⟨by first | rfl | trivial, j + 1, by omega, by go_num, HA⟩
        case measure => simp [intOf]; omega
    · have : j = n := by omega
      subst this
      clear hp hX
      go_wp2
      go_ret
      exact ⟨⟨-1, rfl, by omega, by rw [hall.out]; rfl⟩, rfl⟩

set_option maxHeartbeats 400000 in
theorem contains_any (p : Option Addr) (n c : Nat) (X : Nat → Int) (hX : ∀ i, IsP (X i)) (hn : n ≤ 1048576) (w : World) (hp : Reads w p n (fun i => .int .u32 (X i))) :
    Calls Try.prog 66 #[.slice p n c, .func (.func 67) #[] #[]] w fun e w' => e = .returned (.bool (!allfin X n)) ∧ w' = w := by
  go_enter Try.func66, Try.ntmps66
  go_wp2_with (go_at_call 102; refine (index_any _ _ _ X hX hn _ hp).mono ?_; rintro e w1 ⟨⟨k, rfl, hk, hd⟩, hw'⟩; obtain rfl := hw'.symm; have HD : Hid ((decide (0 ≤ k)) = !allfin X n) := hd; clear hd)
  go_ret
  exact ⟨by rw [← HD.out]; rfl, rfl⟩

set_option maxHeartbeats 400000 in
theorem vfinite_any (p : Option Addr) (n c : Nat) (X : Nat → Int) (hX : ∀ i, IsP (X i)) (hn : n ≤ 1048576) (w : World) (hp : Reads w p n (fun i => .int .u32 (X i))) :
    Calls Try.prog 33 #[.slice p n c] w fun e w' => e = .returned (.bool (allfin X n)) ∧ w' = w := by
  go_enter Try.func33, Try.ntmps33
  go_wp2_with (go_at_call 66; refine (contains_any _ _ _ X hX hn _ hp).mono ?_; rintro e w1 ⟨rfl, hw'⟩; obtain rfl := hw'.symm)
  go_ret
  exact ⟨by cases allfin X n <;> rfl, rfl⟩

set_option maxHeartbeats 400000 in
theorem canon1_any (p : Option Addr) (n c : Nat) (X : Nat → Int) (hX : ∀ i, IsP (X i)) (hn : n ≤ 1048576) (i g : Nat) (hi : i < n) (w : World) (hg : w.cell? ⟨g, 0, none⟩ = some (.slice p n c)) (hp : Reads w p n (fun i => .int .u32 (X i))) :
    Calls Try.prog 70 #[.int .i64 i, .pointer (some ⟨g, 0, none⟩)] w fun e w' => e = .returned (.int .u32 (canon (X i))) ∧ Below w.heap.size w w' := by
  rcases hp with hp | ⟨b, o, rfl, hp⟩
  · omega
  have h1 := hp i hi
  have i1 : (0 : Int) ≤ (i : Int) := by omega
  have i2 : (i : Int) < (n : Int) := by omega
  have x1 := hX i
  clear hp hX
  go_enter Try.func70, Try.ntmps70
  go_wp2_with (go_at_call 60; refine (canon_any _ x1.1 x1.2 _).mono ?_; rintro e w' ⟨rfl, hw'⟩; obtain rfl := hw'.symm)
  go_ret
  exact ⟨rfl, bel0 _⟩

set_option maxRecDepth 100000 in
set_option maxHeartbeats 400000 in
theorem vcanon_any (p : Option Addr) (n c : Nat) (X : Nat → Int) (hX : ∀ i, IsP (X i)) (hn : n ≤ 1048576) (w : World) (hp : Reads w p n (fun i => .int .u32 (X i))) :
    Calls Try.prog 35 #[.slice p n c] w fun e w' => ∃ g, e = .returned (.slice (some ⟨g, 0, none⟩) n n) ∧ w.heap.size ≤ g ∧ w'.rowIs g 38 n (fun i => .int .u32 (canon (X i))) ∧ Below w.heap.size w w' := by
  have HP : Hid (Reads w p n (fun i => .int .u32 (X i)) ∧ ∀ i, IsP (X i)) := ⟨hp, hX⟩
  clear hp hX
  go_enter Try.func35, Try.ntmps35
  go_wp2_with (go_at_call 40; refine (elements_any 70 (enters_of Try.func70 (by kernel_rfl) rfl) #[.pointer (some ⟨w.heap.size, 0, none⟩)] n (fun i => canon (X i)) hn _ (fun i v hi hv => canon1_any p n c X HP.out.2 hn i w.heap.size hi v ((hv.cell (by simp)).trans (by simp)) (HP.out.1.below (bel (mbel_alloc w _) hv)))).mono ?_; rintro e w1 ⟨g, rfl, hg, hr, hb1⟩; have HR : Hid (w1.rowIs g 38 n (fun i => .int .u32 (canon (X i)))) := hr; clear hr)
  go_ret
  exact ⟨_, rfl, by have : w.heap.size + 1 ≤ g := by simpa using hg
                    omega, HR.out, bel (mbel_alloc w _) hb1⟩

set_option maxHeartbeats 400000 in
theorem fill1_any (x : Int) (hx : IsP x) (i g : Nat) (w : World) (hg : w.cell? ⟨g, 0, none⟩ = some (.int .u32 x)) :
    Calls Try.prog 59 #[.int .i64 i, .pointer (some ⟨g, 0, none⟩)] w fun e w' => e = .returned (.int .u32 (canon x)) ∧ Below w.heap.size w w' := by
  go_enter Try.func59, Try.ntmps59
  go_wp2_with (go_at_call 60; refine (canon_any _ hx.1 hx.2 _).mono ?_; rintro e w' ⟨rfl, hw'⟩; obtain rfl := hw'.symm)
  go_ret
  exact ⟨rfl, bel0 _⟩

set_option maxRecDepth 100000 in
set_option maxHeartbeats 400000 in
theorem fill_some (n : Nat) (x : Int) (hx : IsP x) (hn : n ≤ 65536) (w : World) :
    Calls Try.prog 27 #[.int .i64 n, .int .u32 x] w fun e w' => ∃ g, e = .returned (.tuple #[.slice (some ⟨g, 0, none⟩) n n, .int .i64 0]) ∧ w.heap.size ≤ g ∧ w'.rowIs g 38 n (fun i => .int .u32 (canon x)) ∧ Below w.heap.size w w' := by
  have h1 : ¬ ((n : Int) < 0) := by omega
  have h2 : (n : Int) ≤ 65536 := by omega
  go_enter Try.func27, Try.ntmps27
  go_wp2_with (go_at_call 40; refine (elements_any 59 (enters_of Try.func59 (by kernel_rfl) rfl) #[.pointer (some ⟨w.heap.size, 0, none⟩)] n (fun _ => canon x) (by omega) _ (fun i v hi hv => fill1_any x hx i w.heap.size v ((hv.cell (by simp)).trans (by simp)))).mono ?_; rintro e w1 ⟨g, rfl, hg, hr, hb1⟩; have HR : Hid (w1.rowIs g 38 n (fun i => .int .u32 (canon x))) := hr; clear hr)
  go_returns
  exact ⟨_, rfl, by have : w.heap.size + 1 ≤ g := by simpa using hg
                    omega, HR.out, bel (mbel_alloc w _) hb1⟩

set_option maxHeartbeats 400000 in
theorem fill_none (n x : Int) (h0 : -9223372036854775808 ≤ n) (h9 : n ≤ 9223372036854775807) (hn : n < 0 ∨ 65536 < n) (w : World) :
    Calls Try.prog 27 #[.int .i64 n, .int .u32 x] w fun e w' => e = .returned (.tuple #[.slice none 0 0, .int .i64 1]) ∧ Below w.heap.size w w' := by
  rcases hn with hn | hn
  · go_enter Try.func27, Try.ntmps27
    go_wp2
    go_returns
    exact ⟨rfl, mbel_alloc w _⟩
  · have h1 : ¬ (n < 0) := by omega
    go_enter Try.func27, Try.ntmps27
    go_wp2
    go_returns
    exact ⟨rfl, mbel_alloc w _⟩

end Go.Proofs.Ytpidcmfmdgppbaa
