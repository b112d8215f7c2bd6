import Derived.Test.YtjbcafkpcgehdaaLists4
import Derived.Deep.AppendLies
/- Lists of the reference of layer 4: the walks. -/
namespace Go.Proofs.Ytjbcafkpcgehdaa
open Go.RowKit
set_option linter.unusedVariables false

def nums (X : Nat → Int) (n : Nat) : List Value := (List.range n).map fun i => .int .u32 (X i)
theorem nums_len (X : Nat → Int) (n : Nat) : (nums X n).length = n := by simp [nums]
theorem nums_at (X : Nat → Int) (n i : Nat) (h : i < n) : (nums X n)[i]? = some (.int .u32 (X i)) := by simp [nums, h]
theorem nums_two (X : Nat → Int) (k : Nat) : nums X (2 * (k + 1)) = nums X (2 * k) ++ [.int .u32 (X (2 * k)), .int .u32 (X (2 * k + 1))] := by
  unfold nums
  rw [show 2 * (k + 1) = 2 * k + 1 + 1 by omega, List.range_succ, List.range_succ]
  simp

/-- A slice that the call owns: its shape, and what it reads. -/
theorem own_form {w : World} {base : Nat} {e : TypeId} {size : Nat} {v : Value} {n : Nat} {xs : List Value} (hs : 0 < size) (h : w.ownsRow base e size v n xs) (X : Nat → Value) (hX : ∀ i, i < xs.length → xs[i]? = some (X i)) :
    ∃ q cap, v = .slice q n cap ∧ Reads w q xs.length X := by
  rcases h.2 with ⟨rfl, hx⟩ | ⟨g, cap, cur, rfl, hb, hg, rest⟩
  · have h1 := h.1
    subst hx
    exact ⟨none, 0, rfl, .inl (by simpa using h1)⟩
  · refine ⟨some ⟨g, 0, none⟩, cap, rfl, .inr ⟨g, 0, rfl, fun i hi => ?_⟩⟩
    have := h.cells (g := g) rfl i (X i) (hX i hi)
    rw [Nat.zero_add]
    by_cases c : i = 0
    · subst c; simpa [Addr.add] using this
    · simpa [Addr.add, c] using this

set_option maxHeartbeats 1000000 in
theorem rpairs_odd (p : Option Addr) (n c : Nat) (w : World) (hn : n ≤ 35184372088832) (ho : n % 2 = 1) :
    Calls Try.prog 27 #[.slice p n c] w fun e w' => e = .returned (.tuple #[.slice none 0 0, .int .i64 50]) ∧ w' = w := by
  have hr : (n : Int).tmod 2 = 1 := by rw [Int.tmod_eq_emod_of_nonneg (by omega)]; omega
  have hr2 : (n : Int) % 2 = 1 := by omega
  go_enter Try.func27, Try.ntmps27
  go_wp2
  go_returns
  exact ⟨rfl, rfl⟩

set_option maxRecDepth 100000 in
set_option maxHeartbeats 3200000 in
theorem rpairs_even (p : Option Addr) (n m c : Nat) (X : Nat → Int) (w : World) (hn : n ≤ 35184372088832) (hm : n = 2 * m) (hp : Reads w p n (fun i => .int .u32 (X i))) :
    Calls Try.prog 27 #[.slice p n c] w fun e w' => ∃ q cap, e = .returned (.tuple #[.slice q m cap, .int .i64 0]) ∧ Reads w' q n (fun i => .int .u32 (X i)) ∧ Below w.heap.size w w' := by
  have hr : (n : Int).tmod 2 = 0 := by rw [Int.tmod_eq_emod_of_nonneg (by omega)]; omega
  have hr2 : (n : Int) % 2 = 0 := by omega
  obtain ⟨i0, hi0, hz0, hz1, hz2⟩ := info_parts info_C
  have HM : Hid (n = 2 * m) := hm
  clear hm
  go_enter Try.func27, Try.ntmps27
  go_wp2
  go_loopw [4, 5] (fun ov iv wr => Below w.heap.size w wr ∧ ∃ (k : Nat) (v : Value), v = ov ∧ k ≤ m ∧ iv = .int .i64 (2 * (k : Int)) ∧ wr.ownsRow w.heap.size 25 2 v k (nums X (2 * k))) (fun _ iv _ => n - (intOf iv).toNat)
  case atStart => exact ⟨bel0 w, 0, _, rfl, Nat.zero_le _, rfl, World.ownsRow_nil _ _ _ _⟩
  case round =>
    obtain ⟨hb, k, ov, rfl, hk, rfl, hown⟩ := hrel
    have hkn : 2 * k ≤ n := by have := HM.out; omega
    have v2 : IntKind.i64.wrap (2 * (k : Int) + 1) = 2 * (k : Int) + 1 := by rw [IntKind.wrap_i64]; omega
    by_cases hlt : k < m
    · have hn2 : 2 * k + 1 < n := by have := HM.out; omega
      rcases hp with hp | ⟨b, o, rfl, hp⟩
      · omega
      have hbl : b < w.heap.size := mcell_lt (hp (2 * k) (by omega))
      have h1 : wr.cell? ⟨b, o + 2 * k, none⟩ = some (.int .u32 (X (2 * k))) := (hb.cell hbl).trans (hp (2 * k) (by omega))
      have h2 : wr.cell? ⟨b, o + (2 * k + 1), none⟩ = some (.int .u32 (X (2 * k + 1))) := (hb.cell hbl).trans (hp (2 * k + 1) (by omega))
      have i3 : 2 * (k : Int) < (n : Int) := by omega
      have i4 : 2 * (k : Int) + 1 < (n : Int) := by omega
      have i5 : (0 : Int) ≤ 2 * (k : Int) := by omega
      have i6 : (0 : Int) ≤ 2 * (k : Int) + 1 := by omega
      have t1 : (2 * (k : Int)).toNat = 2 * k := by omega
      have t2 : (2 * (k : Int) + 1).toNat = 2 * k + 1 := by omega
      have sz := hb.size
      have hob := hown.lt
      have ab : ov.ownBlock ≠ some b := fun e => by have := (hob b e).1; omega
      clear hp
      go_wp2_with fail
      go_region_held3 (fun w' => w'.cell? ⟨b, o + 2 * k, none⟩ = some (.int .u32 (X (2 * k))) ∧ w'.cell? ⟨b, o + (2 * k + 1), none⟩ = some (.int .u32 (X (2 * k + 1))))
        (first
          | go_keep
          | (go_split_ands
             refine ⟨?_, ?_⟩
             · (rw [hgrow.cell_far _ (by simp; omega) (Ne.symm ab)]; assumption)
             · (rw [hgrow.cell_far _ (by simp; omega) (Ne.symm ab)]; assumption)))
        ((refine step_append_lies _ (by rfl) _ _ _ (by rfl) w.heap.size 25 i0 _ 2 8 Try.underlying37 hi0 hz0 hz1 hz2 rfl (by omega) ov k (nums X (2 * k)) (by rfl) ((hown.alloc _).drew)
            ⟨wr.heap.size, 0, none⟩ 1 1 [.int .u32 (X (2 * k)), .int .u32 (X (2 * k + 1))] (by rfl) (by rfl) (World.news_of_block (cs := #[.int .u32 (X (2 * k)), .int .u32 (X (2 * k + 1))]) (t := 25) (fr := (0, 0)) (heap_alloc_new wr _)) (by simp [Value.oneCell'])
            (by omega) (by unfold maxLen; omega) (by omega) (by simp; omega) (wr.heap.size + 1) (by simp) ?_; intro gg cap w1 hown1 hgrow hat hlt1))
      have R1 : wr.heap.size + 1 ≤ w1.heap.size := by have := hgrow.size; simpa using this
      have HB : Below w.heap.size w w1 := Below.grown ((hb.alloc sz _).drew) hgrow (by simp; omega) (fun j e => (hob j e).1)
      have HO : Hid (w1.ownsRow w.heap.size 25 2 (.slice (some ⟨gg, 0, none⟩) (k + 1) cap) (k + 1) (nums X (2 * k) ++ [.int .u32 (X (2 * k)), .int .u32 (X (2 * k + 1))])) := hown1
      have v3 : IntKind.i64.wrap (2 * (k : Int) + 2) = 2 * (k : Int) + 2 := by rw [IntKind.wrap_i64]; omega
      clear hown1 hgrow hown
      go_wp2
      go_roundw
      case rel => exact ⟨HB, k + 1, _, rfl, by omega, by go_num, by rw [nums_two]; exact HO.out⟩
      case measure => simp [intOf]; omega
    · have : k = m := by omega
      subst this
      have i7 : ¬ (2 * (k : Int) + 1 < (n : Int)) := by have := HM.out; omega
      obtain ⟨q, cap, rfl, hR⟩ := own_form (by decide) hown (fun i => .int .u32 (X i)) (fun i hi => nums_at X _ i (by rw [nums_len] at hi; exact hi))
      rw [nums_len, ← HM.out] at hR
      have HR : Hid (Reads wr q n (fun i => .int .u32 (X i))) := hR
      clear hp hR hown
      go_wp2
      go_returns
      exact ⟨_, ⟨_, rfl⟩, HR.out, hb⟩

end Go.Proofs.Ytjbcafkpcgehdaa
