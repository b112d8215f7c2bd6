import Derived.Test.YtjbcafkpcgehdaaSlices
import Derived.Deep.QuietTactic
import Derived.BigQuiet
/- Lists of layer 4: the walks. -/
namespace Go.Proofs.Ytjbcafkpcgehdaa
open Go.RowKit
set_option linter.unusedVariables false

set_option maxHeartbeats 1000000 in
theorem same_any (p q : Option Addr) (n c c' : Nat) (X : Nat → Int) (w : World) (hn : n ≤ 35184372088832) (hp : Reads w p n (fun i => .int .u32 (X i))) (hq : Reads w q n (fun i => .int .u32 (X i))) :
    Calls Try.prog 29 #[.slice p n c, .slice q n c'] w fun e w' => e = .returned (.bool true) ∧ ∃ k, w' = w.drewN k := by
  go_enter Try.func29, Try.ntmps29
  go_wp2
  go_loopw [5] (fun iv wr => (∃ j, wr = w.drewN j) ∧ ∃ k : Nat, k ≤ n ∧ iv = .int .i64 k) (fun iv _ => n - (intOf iv).toNat)
  case atStart => exact ⟨⟨0, rfl⟩, 0, Nat.zero_le _, rfl⟩
  case round =>
    obtain ⟨⟨j, rfl⟩, k, hk, rfl⟩ := hrel
    by_cases hlt : k < n
    · rcases hp with hp | ⟨b, o, rfl, hp⟩
      · omega
      rcases hq with hq | ⟨b', o', rfl, hq⟩
      · omega
      have h1 := hp k hlt
      have h2 := hq k hlt
      have i1 : (0 : Int) ≤ (k : Int) := by omega
      have i2 : (k : Int) < (n : Int) := by omega
      clear hp hq
      go_wp2
      go_quiet (fail)
      go_wp2
      go_roundw
      case rel => exact ⟨⟨_, rfl⟩, k + 1, by omega, by go_num⟩
      case measure => simp [intOf]; omega
    · have : k = n := by omega
      subst this
      clear hp hq
      go_wp2
      go_ret
      exact ⟨rfl, _, rfl⟩

theorem two_step (X : Nat → Int) (k j : Nat) : (if j = k * 2 + 1 then Value.int .u32 (X (2 * k + 1)) else if j = k * 2 then .int .u32 (X (2 * k)) else .int .u32 (if j < 2 * k then X j else 0)) = .int .u32 (if j < 2 * (k + 1) then X j else 0) := by
  by_cases h1 : j = k * 2 + 1
  · rw [if_pos h1, if_pos (by omega), h1, Nat.mul_comm]
  · rw [if_neg h1]
    by_cases h2 : j = k * 2
    · rw [if_pos h2, if_pos (by omega), h2, Nat.mul_comm]
    · rw [if_neg h2]
      by_cases h3 : j < 2 * k
      · rw [if_pos h3, if_pos (by omega)]
      · rw [if_neg h3, if_neg (by omega)]

theorem two_step2 (X : Nat → Int) (k j : Nat) : (if j = 2 * k + 1 then Value.int .u32 (X (2 * k + 1)) else if j = 2 * k then .int .u32 (X (2 * k)) else .int .u32 (if j < 2 * k then X j else 0)) = .int .u32 (if j < 2 * (k + 1) then X j else 0) := by
  have := two_step X k j
  rw [Nat.mul_comm k 2] at this; exact this

set_option maxHeartbeats 1000000 in
theorem pairs_odd (p : Option Addr) (n c : Nat) (w : World) (hn : n ≤ 35184372088832) (ho : n % 2 = 1) :
    Calls Try.prog 26 #[.slice p n c] w fun e w' => e = .returned (.tuple #[.slice none 0 0, .int .i64 50]) ∧ w' = w := by
  have hr : (n : Int).tmod 2 = 1 := by rw [Int.tmod_eq_emod_of_nonneg (by omega)]; omega
  have hr2 : (n : Int) % 2 = 1 := by omega
  go_enter Try.func26, Try.ntmps26
  go_wp2
  go_returns
  exact ⟨rfl, rfl⟩

set_option maxHeartbeats 1000000 in
theorem pairs_even (p : Option Addr) (n m c : Nat) (X : Nat → Int) (w : World) (hn : n ≤ 35184372088832) (hm : n = 2 * m) (hp : Reads w p n (fun i => .int .u32 (X i))) :
    Calls Try.prog 26 #[.slice p n c] w fun e w' => ∃ g, e = .returned (.tuple #[.slice (some ⟨g, 0, none⟩) m m, .int .i64 0]) ∧ w.heap.size ≤ g ∧ w'.rowIs g 25 n (fun i => .int .u32 (X i)) ∧ Below w.heap.size w w' := by
  have hr : (n : Int).tmod 2 = 0 := by rw [Int.tmod_eq_emod_of_nonneg (by omega)]; omega
  have hr2 : (n : Int) % 2 = 0 := by omega
  have hd : (n : Int).tdiv 2 = m := by rw [Int.tdiv_eq_ediv_of_nonneg (by omega)]; omega
  have hd2 : (n : Int) / 2 = m := by omega
  have hmk := make_C m (by omega)
  have HM : Hid (n = 2 * m) := hm
  clear hm
  go_enter Try.func26, Try.ntmps26
  go_wp2
  go_loopw [5, 16] (fun _ iv wr => Below w.heap.size w wr ∧ ∃ k : Nat, k ≤ m ∧ iv = .int .i64 k ∧ wr.rowIs w.heap.size 25 n (fun i => .int .u32 (if i < 2 * k then X i else 0))) (fun _ iv _ => m - (intOf iv).toNat)
  case atStart => exact ⟨by go_grown, 0, Nat.zero_le _, rfl, by have := row_two w m 25; rw [← HM.out] at this; exact this.congr fun i hi => by simp⟩
  case round =>
    obtain ⟨hb, k, hk, rfl, hrow⟩ := hrel
    clear hmk
    by_cases hlt : k < m
    · have hn2 : 2 * k + 1 < n := by have := HM.out; omega
      rcases hp with hp | ⟨b, o, rfl, hp⟩
      · omega
      have hbl : b < w.heap.size := mcell_lt (hp (2 * k) (by omega))
      have h1 : wr.cell? ⟨b, o + 2 * k, none⟩ = some (.int .u32 (X (2 * k))) := (hb.cell hbl).trans (hp (2 * k) (by omega))
      have h2 : wr.cell? ⟨b, o + (2 * k + 1), none⟩ = some (.int .u32 (X (2 * k + 1))) := (hb.cell hbl).trans (hp (2 * k + 1) (by omega))
      have i1 : (0 : Int) ≤ (k : Int) := by omega
      have i2 : (k : Int) < (m : Int) := by omega
      have i3 : 2 * (k : Int) < (n : Int) := by omega
      have i4 : 2 * (k : Int) + 1 < (n : Int) := by omega
      have c1 := hrow.cell (i := k * 2) (by omega)
      have c2 := hrow.cell (i := k * 2 + 1) (by omega)
      have f1 := hrow.frozen (k * 2)
      have f2 := hrow.frozen (k * 2 + 1)
      have HH : Hid (∀ x y, ((wr.setCell ⟨w.heap.size, k * 2, none⟩ x).setCell ⟨w.heap.size, k * 2 + 1, none⟩ y).rowIs w.heap.size 25 n (fun j => if j = k * 2 + 1 then y else if j = k * 2 then x else .int .u32 (if j < 2 * k then X j else 0))) := fun x y => (hrow.set (k * 2) x).set (k * 2 + 1) y
      clear hp hrow
      have nb : w.heap.size ≠ b := by omega
      have i5 : (0 : Int) ≤ 2 * (k : Int) := by omega
      have i6 : (0 : Int) ≤ 2 * (k : Int) + 1 := by omega
      have v1 : IntKind.i64.wrap (2 * (k : Int)) = 2 * (k : Int) := by rw [IntKind.wrap_i64]; omega
      have v2 : IntKind.i64.wrap (2 * (k : Int) + 1) = 2 * (k : Int) + 1 := by rw [IntKind.wrap_i64]; omega
      have t1 : (2 * (k : Int)).toNat = 2 * k := by omega
      have t2 : (2 * (k : Int) + 1).toNat = 2 * k + 1 := by omega
      go_wp2
      go_region_held3 (fun w' => w'.cell? ⟨b, o + 2 * k, none⟩ = some (.int .u32 (X (2 * k))) ∧ w'.cell? ⟨b, o + (2 * k + 1), none⟩ = some (.int .u32 (X (2 * k + 1)))) (go_keep) (fail)
      go_wp2
      go_roundw
      case rel => exact ⟨((hb.setCell (Nat.le_refl _) _).setCell (Nat.le_refl _) _).drew, k + 1, by omega, by go_num, World.rowIs.drew ((HH.out _ _).congr fun j hj => two_step X k j)⟩
      case measure => simp [intOf]; omega
    · have : k = m := by omega
      subst this
      have HR : Hid (wr.rowIs w.heap.size 25 n (fun i => .int .u32 (if i < 2 * k then X i else 0))) := hrow
      clear hp hrow
      go_wp2
      go_returns
      exact ⟨_, rfl, Nat.le_refl _, HR.out.congr fun i hi => by rw [if_pos (by have := HM.out; omega)], hb⟩

set_option maxHeartbeats 1000000 in
theorem flat_any (p : Option Addr) (m c : Nat) (X : Nat → Int) (w : World) (hn : m ≤ 17592186044416) (hp : Reads w p (2 * m) (fun i => .int .u32 (X i))) :
    Calls Try.prog 28 #[.slice p m c] w fun e w' => ∃ g, e = .returned (.slice (some ⟨g, 0, none⟩) (2 * m) (2 * m)) ∧ w.heap.size ≤ g ∧ w'.rowIs g 23 (2 * m) (fun i => .int .u32 (X i)) ∧ Below w.heap.size w w' := by
  have hmk := make_F (2 * m) (by omega)
  obtain ⟨n, hm⟩ : ∃ n, n = 2 * m := ⟨_, rfl⟩
  have v0 : IntKind.i64.wrap (2 * (m : Int)) = (n : Int) := by rw [IntKind.wrap_i64]; omega
  have v00 : 2 * (m : Int) = (n : Int) := by omega
  rw [← hm] at hp hmk ⊢
  have HM : Hid (n = 2 * m) := hm
  clear hm
  go_enter Try.func28, Try.ntmps28
  go_wp2
  go_loopw [4, 5, 12] (fun _ _ iv wr => Below w.heap.size w wr ∧ ∃ k : Nat, k ≤ m ∧ iv = .int .i64 k ∧ wr.rowIs w.heap.size 23 n (fun i => .int .u32 (if i < 2 * k then X i else 0))) (fun _ _ iv _ => m - (intOf iv).toNat)
  case atStart => exact ⟨by go_grown, 0, Nat.zero_le _, rfl, (World.rowIs_made w _ n _).congr fun i hi => by simp⟩
  case round =>
    obtain ⟨hb, k, hk, rfl, hrow⟩ := hrel
    clear hmk
    by_cases hlt : k < m
    · have hn2 : 2 * k + 1 < n := by have := HM.out; omega
      rcases hp with hp | ⟨b, o, rfl, hp⟩
      · omega
      have hbl : b < w.heap.size := mcell_lt (hp (2 * k) (by omega))
      have h1 : wr.cell? ⟨b, o + k * 2, none⟩ = some (.int .u32 (X (2 * k))) := by rw [Nat.mul_comm k 2]; exact (hb.cell hbl).trans (hp (2 * k) (by omega))
      have h2 : wr.cell? ⟨b, o + k * 2 + 1, none⟩ = some (.int .u32 (X (2 * k + 1))) := by rw [Nat.mul_comm k 2]; exact (hb.cell hbl).trans (hp (2 * k + 1) (by omega))
      have i1 : (0 : Int) ≤ (k : Int) := by omega
      have i2 : (k : Int) < (m : Int) := by omega
      have i3 : 2 * (k : Int) < (n : Int) := by omega
      have i4 : 2 * (k : Int) + 1 < (n : Int) := by omega
      have i5 : (0 : Int) ≤ 2 * (k : Int) := by omega
      have i6 : (0 : Int) ≤ 2 * (k : Int) + 1 := by omega
      have v1 : IntKind.i64.wrap (2 * (k : Int)) = 2 * (k : Int) := by rw [IntKind.wrap_i64]; omega
      have v2 : IntKind.i64.wrap (2 * (k : Int) + 1) = 2 * (k : Int) + 1 := by rw [IntKind.wrap_i64]; omega
      have t1 : (2 * (k : Int)).toNat = 2 * k := by omega
      have t2 : (2 * (k : Int) + 1).toNat = 2 * k + 1 := by omega
      have lt := hrow.lt
      have nb : w.heap.size ≠ wr.heap.size := by omega
      have c1 := hrow.cell (i := 2 * k) (by omega)
      have c2 := hrow.cell (i := 2 * k + 1) (by omega)
      have f1 := hrow.frozen (2 * k)
      have f2 := hrow.frozen (2 * k + 1)
      have HR : Hid (wr.rowIs w.heap.size 23 n (fun i => .int .u32 (if i < 2 * k then X i else 0))) := hrow
      clear hp hrow
      go_wp2
      go_region_held3 (fun w' => w'.cell? ⟨wr.heap.size, 0, none⟩ = some (.int .u32 (X (2 * k))) ∧ w'.cell? ⟨wr.heap.size, 1, none⟩ = some (.int .u32 (X (2 * k + 1)))) (first | (simp [World.cell?_alloc_at]; done) | go_keep) (fail)
      go_wp2
      go_roundw
      case rel => exact ⟨(((hb.setCell (Nat.le_refl _) _).setCell (Nat.le_refl _) _).alloc (by simp; omega) _).drew, k + 1, by omega, by go_num, World.rowIs.drew (World.rowIs.alloc (((HR.out.set (2 * k) _).set (2 * k + 1) _).congr fun j hj => two_step2 X k j) _)⟩
      case measure => simp [intOf]; omega
    · have : k = m := by omega
      subst this
      have HR : Hid (wr.rowIs w.heap.size 23 n (fun i => .int .u32 (if i < 2 * k then X i else 0))) := hrow
      clear hp hrow
      go_wp2
      go_returns
      exact ⟨_, rfl, Nat.le_refl _, HR.out.congr fun i hi => by rw [if_pos (by have := HM.out; omega)], hb⟩

end Go.Proofs.Ytjbcafkpcgehdaa
