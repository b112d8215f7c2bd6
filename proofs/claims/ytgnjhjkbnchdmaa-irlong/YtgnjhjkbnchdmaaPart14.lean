import Derived.Test.YtgnjhjkbnchdmaaPart2
import Derived.Test.YtgnjhjkbnchdmaaPart13
import Derived.Test.YtgnjhjkbnchdmaaPart1
import Derived.Test.YtgnjhjkbnchdmaaRows
import Derived.WalkKit
import Derived.WalkSpells
import Derived.WalkLawsBesides
import Ieee.Arith
import Derived.Laws.FloatBits
import Derived.Laws.FloatArith
import Derived.Below
import Derived.Laws.Externs
import Derived.Handy
/- latheref16: Sets, Reads, Elementwise. By program (tool/layer16/genrref.py). -/
namespace Go.Proofs.Ytgnjhjkbnchdmaa
open Go.RowKit
set_option linter.unusedVariables false
set_option linter.unusedSimpArgs false

def setsP (i : Ins) : Bool := (rowP i.op).d != 0

set_option maxRecDepth 100000 in
set_option maxHeartbeats 1000000 in
theorem relem_any (op : Int) (w : World) : Calls Try.prog 52 #[.int .i64 op] w fun e w' => e = .returned (.bool (elemP op)) ∧ w' = w := by
  unfold elemP
  by_cases h : 3 ≤ op
  all_goals
    go_enter Try.func52, Try.ntmps52
    go_wp2
    go_ret
    exact ⟨ret_bool (by simp [h]; try omega), rfl⟩

theorem u8ne (a : UInt8) (X : Bool) (h : (a == 45) = X) : ((a.toNat : Int) != 45) = !X := by
  rw [← h]
  have : ((a.toNat : Int) == 45) = (a == 45) := by
    rw [Bool.eq_iff_iff]
    simp only [beq_iff_eq]
    constructor
    · intro e
      apply UInt8.toNat_inj.1
      show a.toNat = 45
      omega
    · intro e; subst e; rfl
  simp [bne, this]

set_option maxRecDepth 100000 in
set_option maxHeartbeats 2000000 in
theorem rsets_any (i : Ins) (w : World) : Calls Try.prog 15 #[insV i] w fun e w' => e = .returned (.bool (setsP i)) ∧ Below w.heap.size w w' := by
  unfold setsP
  rcases rrow_any i.op (w.alloc (.cells #[.int .i64 i.op, .int .i64 i.d, .int .i64 i.a, .int .i64 i.b, .int .i64 i.c, .int .i64 i.n, .int .u32 i.bits] 34)) with ⟨hk, hc⟩ | ⟨hk, a, b, c, d, e, ht, hc⟩
  · rw [row_none i.op hk]
    obtain ⟨op, D, A, B, E, n, bt⟩ := i
    unfold insV
    simp only at hc hk ⊢
    have HK : Hid (Calls Try.prog 33 #[.int .i64 op] (w.alloc (.cells #[.int .i64 op, .int .i64 D, .int .i64 A, .int .i64 B, .int .i64 E, .int .i64 n, .int .u32 bt] 34)) fun e w' => e = .returned (.tuple #[.string ⟨#[]⟩, .bool false]) ∧ w' = w.alloc (.cells #[.int .i64 op, .int .i64 D, .int .i64 A, .int .i64 B, .int .i64 E, .int .i64 n, .int .u32 bt] 34)) := hc
    clear hc
    go_enter Try.func15, Try.ntmps15
    go_wp2_with (go_at_call 33; refine HK.out.mono ?_; rintro e w1 ⟨rfl, rfl⟩)
    go_ret
    exact ⟨rfl, bel_alloc _ _⟩
  · have h1 := u8ne a _ ht.a
    obtain ⟨X, hX⟩ : ∃ X, (rowP i.op).d = X := ⟨_, rfl⟩
    rw [hX] at h1 ⊢
    obtain ⟨op, D, A, B, E, n, bt⟩ := i
    unfold insV
    simp only at hc ⊢
    have HK : Hid (∀ w, Calls Try.prog 33 #[.int .i64 op] w fun x w' => x = .returned (.tuple #[.string ⟨#[a, b, c, d, e]⟩, .bool true]) ∧ w' = w) := hc
    have ix : ∀ w, (Instr.index 9 (.string ⟨#[a, b, c, d, e]⟩) (.int .i64 0)).run Try.prog w = .ok (.int .u8 (a.toNat : Int)) w := fun w => by simp [Instr.index, run_underlying Try.underlying9, asIntOf, go_sem]; rfl
    clear hc ht hX
    go_enter Try.func15, Try.ntmps15
    go_wp2_with (go_at_call 33; refine (HK.out _).mono ?_; rintro e w1 ⟨rfl, rfl⟩)
    go_ret
    refine ⟨ret_bool ?_, bel_alloc _ _⟩
    first | exact h1 | (simp only [h1]; rfl) | simp [h1, bne]

/-- The worlds of the loop: the registers' row; the row that grows lies from C on. -/
structure RRd (w : World) (C Q : Nat) (A B E : Int) (v : World) : Prop where
  bel : Below w.heap.size w v
  hC : w.heap.size ≤ C
  hQ : Q < C
  le : C ≤ v.heap.size
  g0 : v.cell? ⟨Q, 0, none⟩ = some (.int .i64 A)
  g1 : v.cell? ⟨Q, 1, none⟩ = some (.int .i64 B)
  g2 : v.cell? ⟨Q, 2, none⟩ = some (.int .i64 E)
theorem RRd.next {w : World} {C Q : Nat} {A B E : Int} {v v' : World} (h : RRd w C Q A B E v) (k : Below C v v') : RRd w C Q A B E v' := by
  have c1 : ∀ {a : Addr} {u : Value}, a.block < C → v.cell? a = some u → v'.cell? a = some u := fun ha hu => (k.cell ha).trans hu
  exact ⟨h.bel.trans (k.mono h.hC), h.hC, h.hQ, Nat.le_trans h.le k.size, c1 h.hQ h.g0, c1 h.hQ h.g1, c1 h.hQ h.g2⟩

set_option maxRecDepth 100000 in
set_option maxHeartbeats 4000000 in
theorem rreads_any (i : Ins) (w : World) : Calls Try.prog 32 #[insV i] w fun e w' => ∃ v, e = .returned v ∧ w'.ownsRow w.heap.size 3 1 v (readsP i (rowP i.op)).length (i64s (readsP i (rowP i.op))) ∧ Below w.heap.size w w' := by
  rcases rrow_any i.op (w.alloc (.cells #[.int .i64 i.op, .int .i64 i.d, .int .i64 i.a, .int .i64 i.b, .int .i64 i.c, .int .i64 i.n, .int .u32 i.bits] 34)) with ⟨hk, hc⟩ | ⟨hk, a, b, c, d, e, ht, hc⟩
  · rw [row_none i.op hk, show readsP i ⟨0, 0, 0, 0, 0⟩ = [] from rfl]
    obtain ⟨op, D, A, B, E, n, bt⟩ := i
    unfold insV
    simp only at hc hk ⊢
    have HK : Hid (Calls Try.prog 33 #[.int .i64 op] (w.alloc (.cells #[.int .i64 op, .int .i64 D, .int .i64 A, .int .i64 B, .int .i64 E, .int .i64 n, .int .u32 bt] 34)) fun e w' => e = .returned (.tuple #[.string ⟨#[]⟩, .bool false]) ∧ w' = w.alloc (.cells #[.int .i64 op, .int .i64 D, .int .i64 A, .int .i64 B, .int .i64 E, .int .i64 n, .int .u32 bt] 34)) := hc
    clear hc
    go_enter Try.func32, Try.ntmps32
    go_wp2_with (go_at_call 33; refine HK.out.mono ?_; rintro e w1 ⟨rfl, rfl⟩)
    go_loopw [3, 7] (fun lv iv wr => lv = .slice none 0 0 ∧ iv = .int .i64 0 ∧ Below w.heap.size w wr) (fun _ iv _ => 0)
    case atStart => exact ⟨rfl, rfl, bel (bel_alloc _ _) (bel_alloc _ _)⟩
    case round =>
      obtain ⟨rfl, rfl, hb⟩ := hrel
      go_wp2
      go_ret
      exact ⟨_, rfl, World.ownsRow_nil _ _ _ 1, hb⟩
  · rw [reads_eq]
    have h1 := u8ne b _ ht.b
    have h2 := u8ne c _ ht.c
    have h3 := u8ne d _ ht.d
    obtain ⟨i0, hi0, hz0, hz1, hz3⟩ := info_parts info_Int
    obtain ⟨r, hr⟩ : ∃ r, rowP i.op = r := ⟨_, rfl⟩
    rw [hr] at h1 h2 h3 ⊢
    obtain ⟨L0, L1, L2, L3, L4⟩ := r
    obtain ⟨op, D, A, B, E, n, bt⟩ := i
    unfold insV
    simp only at hc h1 h2 h3 ⊢
    obtain ⟨R, hR⟩ : ∃ R, (rd1 L1 A ++ rd1 L2 B) ++ rd1 L3 E = R := ⟨_, rfl⟩
    rw [hR]
    have HR : Hid ((rd1 L1 A ++ rd1 L2 B) ++ rd1 L3 E = R) := hR
    have HK : Hid (∀ w, Calls Try.prog 33 #[.int .i64 op] w fun x w' => x = .returned (.tuple #[.string ⟨#[a, b, c, d, e]⟩, .bool true]) ∧ w' = w) := hc
    clear hc ht hr hR hk
    go_enter Try.func32, Try.ntmps32
    go_wp2_with (go_at_call 33; refine (HK.out _).mono ?_; rintro e w1 ⟨rfl, rfl⟩)
    have HF1 : Hid (RRd w (w.heap.size + 1 + 1) (w.heap.size + 1) A B E ((w.alloc (.cells #[.int .i64 op, .int .i64 D, .int .i64 A, .int .i64 B, .int .i64 E, .int .i64 n, .int .u32 bt] 34)).alloc (.cells #[.int .i64 A, .int .i64 B, .int .i64 E] 3))) :=
      ⟨bel (bel_alloc _ _) (bel_alloc _ _), by omega, by omega, by simp, by simp [go_sem], by simp [go_sem], by simp [go_sem]⟩
    obtain ⟨W, hW⟩ : ∃ W, (w.alloc (.cells #[.int .i64 op, .int .i64 D, .int .i64 A, .int .i64 B, .int .i64 E, .int .i64 n, .int .u32 bt] 34)).alloc (.cells #[.int .i64 A, .int .i64 B, .int .i64 E] 3) = W := ⟨_, rfl⟩
    rw [hW] at HF1 ⊢
    obtain ⟨Q, hQ⟩ : ∃ Q, w.heap.size + 1 = Q := ⟨_, rfl⟩
    rw [hQ] at HF1
    try rw [hQ]
    clear hW
    go_loopw [3, 7] (fun lv iv wr => RRd w (Q + 1) Q A B E wr ∧ ∃ (j : Nat) (l : List Int), j ≤ 3 ∧ iv = .int .i64 j ∧ l.length ≤ j ∧ Hid (wr.ownsRow (Q + 1) 3 1 lv l.length (i64s l)) ∧ Hid ((j = 0 → l = []) ∧ (j = 1 → l = rd1 L1 A) ∧ (j = 2 → l = rd1 L1 A ++ rd1 L2 B) ∧ (j = 3 → l = (rd1 L1 A ++ rd1 L2 B) ++ rd1 L3 E))) (fun _ iv _ => 3 - (intOf iv).toNat)
    case atStart => exact ⟨HF1.out, 0, [], by omega, rfl, by simp, World.ownsRow_nil _ _ _ 1, ⟨fun _ => rfl, fun h => absurd h (by omega), fun h => absurd h (by omega), fun h => absurd h (by omega)⟩⟩
    case round =>
      clear HF1 HK
      obtain ⟨hF, j, l, hj, rfl, hll, HO, HL⟩ := hrel
      have HF : Hid (RRd w (Q + 1) Q A B E wr) := hF
      have hGw := hF.le
      have hn1 : Q ≠ wr.heap.size := by omega
      obtain rfl | rfl | rfl | rfl : j = 0 ∨ j = 1 ∨ j = 2 ∨ j = 3 := by omega
      · have g0 := hF.g0
        have f0 := kc (bel_alloc wr (.cells #[.int .i64 A] 3)) g0
        have hl0 := HL.out.1 rfl
        have ix : ∀ w, (Instr.index 9 (.string ⟨#[a, b, c, d, e]⟩) (.int .i64 1)).run Try.prog w = .ok (.int .u8 (b.toNat : Int)) w := fun w => by simp [Instr.index, run_underlying Try.underlying9, asIntOf, go_sem]; rfl
        have hq := h1
        clear hF h1 h2 h3
        by_cases hz : L1 = 0
        · have hz' : (!(L1 == 0)) = false := by simp [hz]
          rw [hz'] at hq
          have hq2 : ((b.toNat : Int) == 45) = true := by simpa [bne] using hq
          have HZ : Hid (L1 = 0) := hz
          clear hz
          go_wp2
          go_roundw
          case rel => exact ⟨HF.out, 1, l, by omega, by first | rfl | go_num, by omega, HO, ⟨fun h => absurd h (by omega), fun _ => by rw [hl0]; unfold rd1; simp [HZ.out], fun h => absurd h (by omega), fun h => absurd h (by omega)⟩⟩
          case measure => simp [intOf]
        · have hz' : (!(L1 == 0)) = true := by simp [hz]
          rw [hz'] at hq
          have hq2 : ((b.toNat : Int) == 45) = false := by simpa [bne] using hq
          have HZ : Hid (¬ L1 = 0) := hz
          clear hz
          go_wp2_with (first
            | (at_builtin; refine wpList_append_own_at _ rfl _ _ 49 rfl (Q + 1) 3 i0 _ 1 8 Try.underlying49 hi0 hz0 hz1 hz3 rfl (by decide) _ l.length (i64s l) rfl (World.ownsRow.alloc HO.out _) ⟨wr.heap.size, 0, none⟩ 1 1 [.int .i64 A] rfl rfl (World.news_of_block (cs := #[.int .i64 A]) (t := 3) (fr := (0, 0)) (heap_alloc_new wr _)) (by simp [Value.oneCell']) (by unfold maxLen; omega) (by omega) (by simp; omega) ?_; intro v' w3 hown3 hgrow hnil hat; have HO3 : Hid (w3.ownsRow (Q + 1) 3 1 v' (l.length + 1) (i64s l ++ [.int .i64 A])) := hown3; have HB3 : Hid (Below (Q + 1) wr w3) := (Below.alloc (Below.refl _ _) hGw _).grown hgrow (by simp; omega) (fun q e => (HO.out.lt q e).1); clear hown3 hgrow hnil hat))
          go_roundw
          case rel => exact ⟨HF.out.next HB3.out, 1, l ++ [A], by omega, by first | rfl | go_num, by simp; omega, by show _; rw [List.length_append, i64s_snoc]; exact HO3.out, ⟨fun h => absurd h (by omega), fun _ => by rw [hl0, show rd1 L1 A = [A] from if_neg HZ.out]; try rfl, fun h => absurd h (by omega), fun h => absurd h (by omega)⟩⟩
          case measure => simp [intOf]
      · have g0 := hF.g1
        have f0 := kc (bel_alloc wr (.cells #[.int .i64 B] 3)) g0
        have hl0 := HL.out.2.1 rfl
        have ix : ∀ w, (Instr.index 9 (.string ⟨#[a, b, c, d, e]⟩) (.int .i64 2)).run Try.prog w = .ok (.int .u8 (c.toNat : Int)) w := fun w => by simp [Instr.index, run_underlying Try.underlying9, asIntOf, go_sem]; rfl
        have hq := h2
        clear hF h1 h2 h3
        by_cases hz : L2 = 0
        · have hz' : (!(L2 == 0)) = false := by simp [hz]
          rw [hz'] at hq
          have hq2 : ((c.toNat : Int) == 45) = true := by simpa [bne] using hq
          have HZ : Hid (L2 = 0) := hz
          clear hz
          go_wp2
          go_roundw
          case rel => exact ⟨HF.out, 2, l, by omega, by first | rfl | go_num, by omega, HO, ⟨fun h => absurd h (by omega), fun h => absurd h (by omega), fun _ => by rw [hl0]; unfold rd1; simp [HZ.out], fun h => absurd h (by omega)⟩⟩
          case measure => simp [intOf]
        · have hz' : (!(L2 == 0)) = true := by simp [hz]
          rw [hz'] at hq
          have hq2 : ((c.toNat : Int) == 45) = false := by simpa [bne] using hq
          have HZ : Hid (¬ L2 = 0) := hz
          clear hz
          go_wp2_with (first
            | (at_builtin; refine wpList_append_own_at _ rfl _ _ 49 rfl (Q + 1) 3 i0 _ 1 8 Try.underlying49 hi0 hz0 hz1 hz3 rfl (by decide) _ l.length (i64s l) rfl (World.ownsRow.alloc HO.out _) ⟨wr.heap.size, 0, none⟩ 1 1 [.int .i64 B] rfl rfl (World.news_of_block (cs := #[.int .i64 B]) (t := 3) (fr := (0, 0)) (heap_alloc_new wr _)) (by simp [Value.oneCell']) (by unfold maxLen; omega) (by omega) (by simp; omega) ?_; intro v' w3 hown3 hgrow hnil hat; have HO3 : Hid (w3.ownsRow (Q + 1) 3 1 v' (l.length + 1) (i64s l ++ [.int .i64 B])) := hown3; have HB3 : Hid (Below (Q + 1) wr w3) := (Below.alloc (Below.refl _ _) hGw _).grown hgrow (by simp; omega) (fun q e => (HO.out.lt q e).1); clear hown3 hgrow hnil hat))
          go_roundw
          case rel => exact ⟨HF.out.next HB3.out, 2, l ++ [B], by omega, by first | rfl | go_num, by simp; omega, by show _; rw [List.length_append, i64s_snoc]; exact HO3.out, ⟨fun h => absurd h (by omega), fun h => absurd h (by omega), fun _ => by rw [hl0, show rd1 L2 B = [B] from if_neg HZ.out]; try rfl, fun h => absurd h (by omega)⟩⟩
          case measure => simp [intOf]
      · have g0 := hF.g2
        have f0 := kc (bel_alloc wr (.cells #[.int .i64 E] 3)) g0
        have hl0 := HL.out.2.2.1 rfl
        have ix : ∀ w, (Instr.index 9 (.string ⟨#[a, b, c, d, e]⟩) (.int .i64 3)).run Try.prog w = .ok (.int .u8 (d.toNat : Int)) w := fun w => by simp [Instr.index, run_underlying Try.underlying9, asIntOf, go_sem]; rfl
        have hq := h3
        clear hF h1 h2 h3
        by_cases hz : L3 = 0
        · have hz' : (!(L3 == 0)) = false := by simp [hz]
          rw [hz'] at hq
          have hq2 : ((d.toNat : Int) == 45) = true := by simpa [bne] using hq
          have HZ : Hid (L3 = 0) := hz
          clear hz
          go_wp2
          go_roundw
          case rel => exact ⟨HF.out, 3, l, by omega, by first | rfl | go_num, by omega, HO, ⟨fun h => absurd h (by omega), fun h => absurd h (by omega), fun h => absurd h (by omega), fun _ => by rw [hl0]; unfold rd1; simp [HZ.out]⟩⟩
          case measure => simp [intOf]
        · have hz' : (!(L3 == 0)) = true := by simp [hz]
          rw [hz'] at hq
          have hq2 : ((d.toNat : Int) == 45) = false := by simpa [bne] using hq
          have HZ : Hid (¬ L3 = 0) := hz
          clear hz
          go_wp2_with (first
            | (at_builtin; refine wpList_append_own_at _ rfl _ _ 49 rfl (Q + 1) 3 i0 _ 1 8 Try.underlying49 hi0 hz0 hz1 hz3 rfl (by decide) _ l.length (i64s l) rfl (World.ownsRow.alloc HO.out _) ⟨wr.heap.size, 0, none⟩ 1 1 [.int .i64 E] rfl rfl (World.news_of_block (cs := #[.int .i64 E]) (t := 3) (fr := (0, 0)) (heap_alloc_new wr _)) (by simp [Value.oneCell']) (by unfold maxLen; omega) (by omega) (by simp; omega) ?_; intro v' w3 hown3 hgrow hnil hat; have HO3 : Hid (w3.ownsRow (Q + 1) 3 1 v' (l.length + 1) (i64s l ++ [.int .i64 E])) := hown3; have HB3 : Hid (Below (Q + 1) wr w3) := (Below.alloc (Below.refl _ _) hGw _).grown hgrow (by simp; omega) (fun q e => (HO.out.lt q e).1); clear hown3 hgrow hnil hat))
          go_roundw
          case rel => exact ⟨HF.out.next HB3.out, 3, l ++ [E], by omega, by first | rfl | go_num, by simp; omega, by show _; rw [List.length_append, i64s_snoc]; exact HO3.out, ⟨fun h => absurd h (by omega), fun h => absurd h (by omega), fun h => absurd h (by omega), fun _ => by rw [hl0, show rd1 L3 E = [E] from if_neg HZ.out]; try rfl⟩⟩
          case measure => simp [intOf]
      · have hl0 := HL.out.2.2.2 rfl
        clear hF
        go_wp2
        go_ret
        refine ⟨_, rfl, ?_, HF.out.bel⟩
        rw [← HR.out, ← hl0]
        exact own_mono HO.out (by have := HF.out.hC; omega)

end Go.Proofs.Ytgnjhjkbnchdmaa
/- The reference of layer 16: types, registers, parts. -/
namespace Go.Proofs.Ytgnjhjkbnchdmaa
open Go.RowKit
set_option linter.unusedVariables false
set_option linter.unusedSimpArgs false

set_option maxRecDepth 100000 in
set_option maxHeartbeats 1000000 in
theorem rmayType_any (t : Ty) (p : Option Addr) (n c : Nat) (hn : n ≤ 140737488351232) (w : World) : Calls Try.prog 11 #[tyV t, .slice p n c] w fun e w' => e = .returned (.bool (typeMay t n)) ∧ Below w.heap.size w w' := by
  obtain ⟨K, P⟩ := t
  unfold typeMay tyV isPl
  simp only
  by_cases h1 : K = 1
  · subst h1
    rw [if_pos (Or.inl rfl)]
    go_enter Try.func11, Try.ntmps11
    go_wp2
    go_ret
    exact ⟨rfl, bel_alloc _ _⟩
  · by_cases h2 : K = 2
    · subst h2
      rw [if_pos (Or.inr rfl)]
      go_enter Try.func11, Try.ntmps11
      go_wp2
      go_ret
      exact ⟨rfl, bel_alloc _ _⟩
    · rw [if_neg (fun e => e.elim h1 h2)]
      have h1' : (K == 1) = false := by simpa using h1
      have h2' : (K == 2) = false := by simpa using h2
      by_cases h3 : K = 3
      · subst h3
        rw [if_pos rfl]
        by_cases h : 0 ≤ P
        all_goals
          go_enter Try.func11, Try.ntmps11
          go_wp2
          go_ret
          exact ⟨ret_bool (by simp [h]; try omega), bel_alloc _ _⟩
      · rw [if_neg h3]
        have h3' : (K == 3) = false := by simpa using h3
        clear h1 h2 h3
        go_enter Try.func11, Try.ntmps11
        go_wp2
        go_ret
        exact ⟨rfl, bel_alloc _ _⟩

set_option maxRecDepth 100000 in
set_option maxHeartbeats 1000000 in
theorem rtypeOf_any (v0 v1 v2 v3 : Value) (c : Cd) (hk : CdOk c) (n : Int) (w : World) (hv : CdV w v0 v1 v2 v3 c) :
    Calls Try.prog 63 #[.agg #[v0, v1, v2, v3], .int .i64 n] w fun e w' => e = .returned (.tuple #[tyV (regT c.regs n), .bool (isPl n c.regs.length)]) ∧ Below w.heap.size w w' := by
  have HB := hk.regsL
  have hr := hv.regs
  obtain ⟨p, q, rfl, hrr⟩ := hv.regs
  clear hv hk
  by_cases h0 : 0 ≤ n
  · by_cases h1 : n < (c.regs.length : Int)
    · obtain ⟨k, rfl⟩ : ∃ k : Nat, n = (k : Int) := ⟨n.toNat, by omega⟩
      have hk : k < c.regs.length := by omega
      have e : regT c.regs (k : Int) = c.regs[k] := regT_at rfl hk
      have e2 : isPl (k : Int) c.regs.length = true := isPl_iff.2 ⟨by omega, by omega⟩
      rw [e, e2]
      obtain ⟨lb, lo, rfl, hc⟩ := hr.at hk
      obtain ⟨⟨K, P⟩, ht⟩ : ∃ t : Ty, c.regs[k] = t := ⟨_, rfl⟩
      rw [ht] at hc ⊢
      have y0 : w.cell? ⟨lb, lo + k * 2, none⟩ = some (.int .i64 K) := hc.at 0 rfl
      have y1 : w.cell? ⟨lb, lo + k * 2 + 1, none⟩ = some (.int .i64 P) := hc.at 1 rfl
      have hlb : lb ≠ w.heap.size := by have := mcell_lt y0; simp only at this; omega
      obtain ⟨N, hN⟩ : ∃ N, c.regs.length = N := ⟨_, rfl⟩
      rw [hN] at hk HB ⊢
      clear hr hrr hc ht e e2 h0 h1 hN
      have g0 : ∀ o o', ((w.alloc o).alloc o').cell? ⟨lb, lo + k * 2, none⟩ = some (.int .i64 K) := fun o o' => kc (bel (bel_alloc _ _) (bel_alloc _ _)) y0
      have g1 : ∀ o o', ((w.alloc o).alloc o').cell? ⟨lb, lo + k * 2 + 1, none⟩ = some (.int .i64 P) := fun o o' => kc (bel (bel_alloc _ _) (bel_alloc _ _)) y1
      unfold tyV
      go_enter Try.func63, Try.ntmps63
      go_wp2
      refine bodyPost_ret (by simp [results, Try.results63, go_sem, *]; try rfl) rfl ?_
      exact ⟨rfl, bel (bel_alloc _ _) (bel_alloc _ _)⟩
    · have e2 : isPl n c.regs.length = false := by unfold isPl; simp; omega
      have e : regT c.regs n = ⟨0, 0⟩ := by unfold regT; rw [e2]; rfl
      rw [e, e2]
      obtain ⟨N, hN⟩ : ∃ N, c.regs.length = N := ⟨_, rfl⟩
      rw [hN] at h1 HB ⊢
      clear hr hrr e e2 hN
      unfold tyV
      go_enter Try.func63, Try.ntmps63
      go_wp2
      refine bodyPost_ret (by simp [results, Try.results63, go_sem, *]; try rfl) rfl ?_
      exact ⟨rfl, bel (bel_alloc _ _) (bel_alloc _ _)⟩
  · have e2 : isPl n c.regs.length = false := by unfold isPl; simp; omega
    have e : regT c.regs n = ⟨0, 0⟩ := by unfold regT; rw [e2]; rfl
    rw [e, e2]
    obtain ⟨N, hN⟩ : ∃ N, c.regs.length = N := ⟨_, rfl⟩
    rw [hN] at HB ⊢
    clear hr hrr e e2 hN
    unfold tyV
    go_enter Try.func63, Try.ntmps63
    go_wp2
    refine bodyPost_ret (by simp [results, Try.results63, go_sem, *]; try rfl) rfl ?_
    exact ⟨rfl, bel (bel_alloc _ _) (bel_alloc _ _)⟩

/-- What may stand at a letter of the reference's rows. -/
def letR (b : Int) (t d : Ty) : Bool :=
  if b = 110 then t.kind == 1 else if b = 119 then t.kind == 2 else if b = 118 then t.kind == 3 else if b = 100 then t.kind == 1 || t.kind == 3
  else if b = 120 then t.kind == 1 || decide (t = d) else if b = 99 then decide (t = d) || (t.kind == 1 && d.kind == 3) else true
def operR (rs : List Ty) (b n : Int) (d : Ty) : Bool := if b = 45 then n == 0 else isPl n rs.length && letR b (regT rs n) d

set_option maxRecDepth 100000 in
set_option maxHeartbeats 2000000 in
theorem roperand_any (v0 v1 v2 v3 : Value) (c : Cd) (hk : CdOk c) (b n : Int) (d : Ty) (hb : b = 45 ∨ b = 110 ∨ b = 119 ∨ b = 118 ∨ b = 100 ∨ b = 120 ∨ b = 99 ∨ b = 97) (w : World) (hv : CdV w v0 v1 v2 v3 c) :
    Calls Try.prog 50 #[.agg #[v0, v1, v2, v3], .int .u8 b, .int .i64 n, tyV d] w fun e w' => e = .returned (.bool (operR c.regs b n d)) ∧ Below w.heap.size w w' := by
  have KT : Hid (∀ v, Below w.heap.size w v → Calls Try.prog 63 #[.agg #[v0, v1, v2, v3], .int .i64 n] v fun e w' => e = .returned (.tuple #[tyV (regT c.regs n), .bool (isPl n c.regs.length)]) ∧ Below v.heap.size v w') := fun v h => rtypeOf_any v0 v1 v2 v3 c hk n v (hv.below h)
  unfold operR
  obtain ⟨X, hX⟩ : ∃ X, isPl n c.regs.length = X := ⟨_, rfl⟩
  obtain ⟨⟨K, P⟩, ht⟩ : ∃ t : Ty, regT c.regs n = t := ⟨_, rfl⟩
  rw [hX, ht] at KT ⊢
  clear hX ht hv hk
  obtain ⟨dk, dp⟩ := d
  unfold tyV at KT ⊢
  simp only at KT ⊢
  by_cases h45 : b = 45
  · subst h45
    rw [if_pos rfl]
    go_enter Try.func50, Try.ntmps50
    go_wp2
    go_ret
    exact ⟨rfl, bel (bel_alloc _ _) (bel_alloc _ _)⟩
  · rw [if_neg h45]
    have h45' : (b == 45) = false := by simpa using h45
    cases X
    · rw [Bool.false_and]
      clear hb h45
      go_enter Try.func50, Try.ntmps50
      go_wp2_with (go_at_call 63; (with_reducible refine (KT.out _ (bel (bel_alloc _ _) (bel_alloc _ _))).mono ?_); rintro e w1 ⟨rfl, hb1⟩; have f0 : ∀ o, (w1.alloc o).cell? ⟨w.heap.size + 1, 0, none⟩ = some (.int .i64 dk) := (fun o => kc (bel hb1 (bel_alloc _ _)) (by simp [go_sem])); have f1 : ∀ o, (w1.alloc o).cell? ⟨w.heap.size + 1, 1, none⟩ = some (.int .i64 dp) := (fun o => kc (bel hb1 (bel_alloc _ _)) (by simp [go_sem])); have HB1 : Hid _ := hb1; clear hb1)
      go_ret
      exact ⟨rfl, bel (bel (bel_alloc _ _) (bel_alloc _ _)) (bel HB1.out (bel_alloc _ _))⟩
    · rw [Bool.true_and]
      rcases hb with rfl | rfl | rfl | rfl | rfl | rfl | rfl | rfl
      · exact absurd rfl h45
      all_goals clear h45 h45'
      all_goals
        cases h1 : (K == 1)
        all_goals
          by_cases hkd : K = dk
          · subst hkd
            by_cases hpd : P = dp
            · subst hpd
              go_enter Try.func50, Try.ntmps50
              go_wp2_with (go_at_call 63; (with_reducible refine (KT.out _ (bel (bel_alloc _ _) (bel_alloc _ _))).mono ?_); rintro e w1 ⟨rfl, hb1⟩; have f0 : ∀ o, (w1.alloc o).cell? ⟨w.heap.size + 1, 0, none⟩ = some (.int .i64 K) := (fun o => kc (bel hb1 (bel_alloc _ _)) (by simp [go_sem])); have f1 : ∀ o, (w1.alloc o).cell? ⟨w.heap.size + 1, 1, none⟩ = some (.int .i64 P) := (fun o => kc (bel hb1 (bel_alloc _ _)) (by simp [go_sem])); have HB1 : Hid _ := hb1; clear hb1)
              go_ret
              refine ⟨ret_bool ?_, bel (bel (bel_alloc _ _) (bel_alloc _ _)) (bel HB1.out (bel_alloc _ _))⟩
              simp [letR, *]
            · go_enter Try.func50, Try.ntmps50
              go_wp2_with (go_at_call 63; (with_reducible refine (KT.out _ (bel (bel_alloc _ _) (bel_alloc _ _))).mono ?_); rintro e w1 ⟨rfl, hb1⟩; have f0 : ∀ o, (w1.alloc o).cell? ⟨w.heap.size + 1, 0, none⟩ = some (.int .i64 K) := (fun o => kc (bel hb1 (bel_alloc _ _)) (by simp [go_sem])); have f1 : ∀ o, (w1.alloc o).cell? ⟨w.heap.size + 1, 1, none⟩ = some (.int .i64 dp) := (fun o => kc (bel hb1 (bel_alloc _ _)) (by simp [go_sem])); have HB1 : Hid _ := hb1; clear hb1)
              go_ret
              refine ⟨ret_bool ?_, bel (bel (bel_alloc _ _) (bel_alloc _ _)) (bel HB1.out (bel_alloc _ _))⟩
              simp [letR, *]
          · go_enter Try.func50, Try.ntmps50
            go_wp2_with (go_at_call 63; (with_reducible refine (KT.out _ (bel (bel_alloc _ _) (bel_alloc _ _))).mono ?_); rintro e w1 ⟨rfl, hb1⟩; have f0 : ∀ o, (w1.alloc o).cell? ⟨w.heap.size + 1, 0, none⟩ = some (.int .i64 dk) := (fun o => kc (bel hb1 (bel_alloc _ _)) (by simp [go_sem])); have f1 : ∀ o, (w1.alloc o).cell? ⟨w.heap.size + 1, 1, none⟩ = some (.int .i64 dp) := (fun o => kc (bel hb1 (bel_alloc _ _)) (by simp [go_sem])); have HB1 : Hid _ := hb1; clear hb1)
            go_ret
            refine ⟨ret_bool ?_, bel (bel (bel_alloc _ _) (bel_alloc _ _)) (bel HB1.out (bel_alloc _ _))⟩
            simp [letR, *]

end Go.Proofs.Ytgnjhjkbnchdmaa
/- The reference of layer 16: parts, the vector of an instruction. -/
namespace Go.Proofs.Ytgnjhjkbnchdmaa
open Go.RowKit
set_option linter.unusedVariables false
set_option linter.unusedSimpArgs false

set_option maxRecDepth 100000 in
set_option maxHeartbeats 1000000 in
theorem rpart_any (v0 v1 v2 v3 : Value) (c : Cd) (hk : CdOk c) (n p : Int) (hp : n = 1 → isPl p c.sign.length = true) (w : World) (hv : CdV w v0 v1 v2 v3 c) :
    Calls Try.prog 51 #[.agg #[v0, v1, v2, v3], .int .i64 n, .int .i64 p] w fun e w' => e = .returned (.bool (n == 0 || (n == 1 && kindOf c.sign p == 2))) ∧ Below w.heap.size w w' := by
  have HB := hk.signL
  by_cases h0 : n = 0
  · subst h0
    clear hp hv
    go_enter Try.func51, Try.ntmps51
    go_wp2
    go_ret
    exact ⟨rfl, bel_alloc _ _⟩
  · have h0' : (n == 0) = false := by simpa using h0
    by_cases h1 : n = 1
    · subst h1
      obtain ⟨k, rfl, hkl⟩ := pl_nat (hp rfl)
      have hr := hv.sign
      obtain ⟨p, q, rfl, hrr⟩ := hv.sign
      obtain ⟨lb, lo, rfl, hc⟩ := hr.at hkl
      have e : kindOf c.sign (k : Int) = c.sign[k].kind := by unfold kindOf; rw [Int.toNat_natCast, List.getElem?_eq_getElem hkl]; rfl
      rw [e]
      obtain ⟨⟨nm, K, L⟩, ht⟩ : ∃ t : Par, c.sign[k] = t := ⟨_, rfl⟩
      rw [ht] at hc ⊢
      have y1 : w.cell? ⟨lb, lo + k * 3 + 1, none⟩ = some (.int .i64 K) := hc.at 1 rfl
      have g1 : ∀ o, (w.alloc o).cell? ⟨lb, lo + k * 3 + 1, none⟩ = some (.int .i64 K) := fun o => kc (bel_alloc _ _) y1
      obtain ⟨N, hN⟩ : ∃ N, c.sign.length = N := ⟨_, rfl⟩
      rw [hN] at hkl HB ⊢
      clear hr hrr hc ht e hp hv hN h0 hk
      simp only
      go_enter Try.func51, Try.ntmps51
      go_wp2
      go_ret
      exact ⟨ret_bool (by simp), bel_alloc _ _⟩
    · have h1' : (n == 1) = false := by simpa using h1
      rw [h0', h1']
      clear hp hv h0 h1
      go_enter Try.func51, Try.ntmps51
      go_wp2
      go_ret
      exact ⟨rfl, bel_alloc _ _⟩

def vecN (i : Ins) : Int := if elemP i.op || (i.op == 29 || (i.op == 30 || i.op == 32)) then i.d else if i.op == 31 || i.op == 33 then i.a else -1
def vecR (rs : List Ty) (n : Int) : Int := if isPl n rs.length && (regT rs n).kind == 3 then (regT rs n).par else -1

set_option maxRecDepth 100000 in
set_option maxHeartbeats 2000000 in
theorem rvector_any (v0 v1 v2 v3 : Value) (c : Cd) (hk : CdOk c) (i : Ins) (w : World) (hv : CdV w v0 v1 v2 v3 c) :
    Calls Try.prog 31 #[.agg #[v0, v1, v2, v3], insV i] w fun e w' => e = .returned (.int .i64 (vecR c.regs (vecN i))) ∧ Below w.heap.size w w' := by
  have HB := hk.regsL
  have KE : Hid (∀ v, Calls Try.prog 52 #[.int .i64 i.op] v fun e w' => e = .returned (.bool (elemP i.op)) ∧ w' = v) := relem_any i.op
  have hr := hv.regs
  obtain ⟨p, q, rfl, hrr⟩ := hv.regs
  clear hv hk hrr
  obtain ⟨op, D, A, B, E, nn, bb⟩ := i
  unfold insV
  simp only at KE ⊢
  -- the cells that an index within the list finds
  have key : ∀ n : Int, (isPl n c.regs.length = false ∧ vecR c.regs n = -1) ∨ ∃ (k : Nat) (lb lo : Nat) (K P : Int), n = (k : Int) ∧ k < c.regs.length ∧ p = some ⟨lb, lo, none⟩ ∧ w.cell? ⟨lb, lo + k * 2, none⟩ = some (.int .i64 K) ∧ w.cell? ⟨lb, lo + k * 2 + 1, none⟩ = some (.int .i64 P) ∧ vecR c.regs n = if K == 3 then P else -1 := by
    intro n
    cases h : isPl n c.regs.length
    · exact .inl ⟨rfl, by unfold vecR; rw [h]; rfl⟩
    · obtain ⟨k, rfl, hkl⟩ := pl_nat h
      obtain ⟨lb, lo, hp, hc⟩ := hr.at hkl
      refine .inr ⟨k, lb, lo, c.regs[k].kind, c.regs[k].par, rfl, hkl, hp, hc.at 0 rfl, hc.at 1 rfl, ?_⟩
      unfold vecR
      rw [h, regT_at rfl hkl, Bool.true_and]
  obtain ⟨N, hN⟩ : ∃ N, c.regs.length = N := ⟨_, rfl⟩
  rw [hN] at HB key ⊢
  clear hr
  cases hX : elemP op
  · rw [hX] at KE
    by_cases a29 : op = 29
    · subst a29
      rw [show vecN ⟨29, D, A, B, E, nn, bb⟩ = D from rfl]
      rcases key D with ⟨hpl, e9⟩ | ⟨k, lb, lo, K, P, rfl, hkl, rfl, y0, y1, e9⟩
      · rw [e9]
        clear key e9
        by_cases h0 : D < 0
        · go_enter Try.func31, Try.ntmps31
          go_wp2_with (go_at_call 52; (with_reducible refine (KE.out _).mono ?_); rintro e w1 ⟨rfl, rfl⟩)
          go_ret
          refine ⟨?_, bel (bel_alloc _ _) (bel_alloc _ _)⟩
          first | rfl | simp [*]
        · have h1 : (N : Int) ≤ D := by unfold isPl at hpl; simp at hpl; omega
          go_enter Try.func31, Try.ntmps31
          go_wp2_with (go_at_call 52; (with_reducible refine (KE.out _).mono ?_); rintro e w1 ⟨rfl, rfl⟩)
          go_ret
          refine ⟨?_, bel (bel_alloc _ _) (bel_alloc _ _)⟩
          first | rfl | simp [*]
      · rw [e9]
        clear key e9
        have g0 : ∀ o o', ((w.alloc o).alloc o').cell? ⟨lb, lo + k * 2, none⟩ = some (.int .i64 K) := fun o o' => kc (bel (bel_alloc _ _) (bel_alloc _ _)) y0
        have g1 : ∀ o o', ((w.alloc o).alloc o').cell? ⟨lb, lo + k * 2 + 1, none⟩ = some (.int .i64 P) := fun o o' => kc (bel (bel_alloc _ _) (bel_alloc _ _)) y1
        by_cases h3 : K = 3
        · subst h3
          go_enter Try.func31, Try.ntmps31
          go_wp2_with (go_at_call 52; (with_reducible refine (KE.out _).mono ?_); rintro e w1 ⟨rfl, rfl⟩)
          go_ret
          refine ⟨?_, bel (bel_alloc _ _) (bel_alloc _ _)⟩
          first | rfl | simp [*]
        · have h3' : (K == 3) = false := by simpa using h3
          have h3b : (K != 3) = true := by simpa using h3
          rw [h3']
          clear h3
          go_enter Try.func31, Try.ntmps31
          go_wp2_with (go_at_call 52; (with_reducible refine (KE.out _).mono ?_); rintro e w1 ⟨rfl, rfl⟩)
          go_ret
          refine ⟨?_, bel (bel_alloc _ _) (bel_alloc _ _)⟩
          first | rfl | simp [*]
    by_cases a30 : op = 30
    · subst a30
      rw [show vecN ⟨30, D, A, B, E, nn, bb⟩ = D from rfl]
      rcases key D with ⟨hpl, e9⟩ | ⟨k, lb, lo, K, P, rfl, hkl, rfl, y0, y1, e9⟩
      · rw [e9]
        clear key e9
        by_cases h0 : D < 0
        · go_enter Try.func31, Try.ntmps31
          go_wp2_with (go_at_call 52; (with_reducible refine (KE.out _).mono ?_); rintro e w1 ⟨rfl, rfl⟩)
          go_ret
          refine ⟨?_, bel (bel_alloc _ _) (bel_alloc _ _)⟩
          first | rfl | simp [*]
        · have h1 : (N : Int) ≤ D := by unfold isPl at hpl; simp at hpl; omega
          go_enter Try.func31, Try.ntmps31
          go_wp2_with (go_at_call 52; (with_reducible refine (KE.out _).mono ?_); rintro e w1 ⟨rfl, rfl⟩)
          go_ret
          refine ⟨?_, bel (bel_alloc _ _) (bel_alloc _ _)⟩
          first | rfl | simp [*]
      · rw [e9]
        clear key e9
        have g0 : ∀ o o', ((w.alloc o).alloc o').cell? ⟨lb, lo + k * 2, none⟩ = some (.int .i64 K) := fun o o' => kc (bel (bel_alloc _ _) (bel_alloc _ _)) y0
        have g1 : ∀ o o', ((w.alloc o).alloc o').cell? ⟨lb, lo + k * 2 + 1, none⟩ = some (.int .i64 P) := fun o o' => kc (bel (bel_alloc _ _) (bel_alloc _ _)) y1
        by_cases h3 : K = 3
        · subst h3
          go_enter Try.func31, Try.ntmps31
          go_wp2_with (go_at_call 52; (with_reducible refine (KE.out _).mono ?_); rintro e w1 ⟨rfl, rfl⟩)
          go_ret
          refine ⟨?_, bel (bel_alloc _ _) (bel_alloc _ _)⟩
          first | rfl | simp [*]
        · have h3' : (K == 3) = false := by simpa using h3
          have h3b : (K != 3) = true := by simpa using h3
          rw [h3']
          clear h3
          go_enter Try.func31, Try.ntmps31
          go_wp2_with (go_at_call 52; (with_reducible refine (KE.out _).mono ?_); rintro e w1 ⟨rfl, rfl⟩)
          go_ret
          refine ⟨?_, bel (bel_alloc _ _) (bel_alloc _ _)⟩
          first | rfl | simp [*]
    by_cases a32 : op = 32
    · subst a32
      rw [show vecN ⟨32, D, A, B, E, nn, bb⟩ = D from rfl]
      rcases key D with ⟨hpl, e9⟩ | ⟨k, lb, lo, K, P, rfl, hkl, rfl, y0, y1, e9⟩
      · rw [e9]
        clear key e9
        by_cases h0 : D < 0
        · go_enter Try.func31, Try.ntmps31
          go_wp2_with (go_at_call 52; (with_reducible refine (KE.out _).mono ?_); rintro e w1 ⟨rfl, rfl⟩)
          go_ret
          refine ⟨?_, bel (bel_alloc _ _) (bel_alloc _ _)⟩
          first | rfl | simp [*]
        · have h1 : (N : Int) ≤ D := by unfold isPl at hpl; simp at hpl; omega
          go_enter Try.func31, Try.ntmps31
          go_wp2_with (go_at_call 52; (with_reducible refine (KE.out _).mono ?_); rintro e w1 ⟨rfl, rfl⟩)
          go_ret
          refine ⟨?_, bel (bel_alloc _ _) (bel_alloc _ _)⟩
          first | rfl | simp [*]
      · rw [e9]
        clear key e9
        have g0 : ∀ o o', ((w.alloc o).alloc o').cell? ⟨lb, lo + k * 2, none⟩ = some (.int .i64 K) := fun o o' => kc (bel (bel_alloc _ _) (bel_alloc _ _)) y0
        have g1 : ∀ o o', ((w.alloc o).alloc o').cell? ⟨lb, lo + k * 2 + 1, none⟩ = some (.int .i64 P) := fun o o' => kc (bel (bel_alloc _ _) (bel_alloc _ _)) y1
        by_cases h3 : K = 3
        · subst h3
          go_enter Try.func31, Try.ntmps31
          go_wp2_with (go_at_call 52; (with_reducible refine (KE.out _).mono ?_); rintro e w1 ⟨rfl, rfl⟩)
          go_ret
          refine ⟨?_, bel (bel_alloc _ _) (bel_alloc _ _)⟩
          first | rfl | simp [*]
        · have h3' : (K == 3) = false := by simpa using h3
          have h3b : (K != 3) = true := by simpa using h3
          rw [h3']
          clear h3
          go_enter Try.func31, Try.ntmps31
          go_wp2_with (go_at_call 52; (with_reducible refine (KE.out _).mono ?_); rintro e w1 ⟨rfl, rfl⟩)
          go_ret
          refine ⟨?_, bel (bel_alloc _ _) (bel_alloc _ _)⟩
          first | rfl | simp [*]
    by_cases a31 : op = 31
    · subst a31
      rw [show vecN ⟨31, D, A, B, E, nn, bb⟩ = A from rfl]
      rcases key A with ⟨hpl, e9⟩ | ⟨k, lb, lo, K, P, rfl, hkl, rfl, y0, y1, e9⟩
      · rw [e9]
        clear key e9
        by_cases h0 : A < 0
        · go_enter Try.func31, Try.ntmps31
          go_wp2_with (go_at_call 52; (with_reducible refine (KE.out _).mono ?_); rintro e w1 ⟨rfl, rfl⟩)
          go_ret
          refine ⟨?_, bel (bel_alloc _ _) (bel_alloc _ _)⟩
          first | rfl | simp [*]
        · have h1 : (N : Int) ≤ A := by unfold isPl at hpl; simp at hpl; omega
          go_enter Try.func31, Try.ntmps31
          go_wp2_with (go_at_call 52; (with_reducible refine (KE.out _).mono ?_); rintro e w1 ⟨rfl, rfl⟩)
          go_ret
          refine ⟨?_, bel (bel_alloc _ _) (bel_alloc _ _)⟩
          first | rfl | simp [*]
      · rw [e9]
        clear key e9
        have g0 : ∀ o o', ((w.alloc o).alloc o').cell? ⟨lb, lo + k * 2, none⟩ = some (.int .i64 K) := fun o o' => kc (bel (bel_alloc _ _) (bel_alloc _ _)) y0
        have g1 : ∀ o o', ((w.alloc o).alloc o').cell? ⟨lb, lo + k * 2 + 1, none⟩ = some (.int .i64 P) := fun o o' => kc (bel (bel_alloc _ _) (bel_alloc _ _)) y1
        by_cases h3 : K = 3
        · subst h3
          go_enter Try.func31, Try.ntmps31
          go_wp2_with (go_at_call 52; (with_reducible refine (KE.out _).mono ?_); rintro e w1 ⟨rfl, rfl⟩)
          go_ret
          refine ⟨?_, bel (bel_alloc _ _) (bel_alloc _ _)⟩
          first | rfl | simp [*]
        · have h3' : (K == 3) = false := by simpa using h3
          have h3b : (K != 3) = true := by simpa using h3
          rw [h3']
          clear h3
          go_enter Try.func31, Try.ntmps31
          go_wp2_with (go_at_call 52; (with_reducible refine (KE.out _).mono ?_); rintro e w1 ⟨rfl, rfl⟩)
          go_ret
          refine ⟨?_, bel (bel_alloc _ _) (bel_alloc _ _)⟩
          first | rfl | simp [*]
    by_cases a33 : op = 33
    · subst a33
      rw [show vecN ⟨33, D, A, B, E, nn, bb⟩ = A from rfl]
      rcases key A with ⟨hpl, e9⟩ | ⟨k, lb, lo, K, P, rfl, hkl, rfl, y0, y1, e9⟩
      · rw [e9]
        clear key e9
        by_cases h0 : A < 0
        · go_enter Try.func31, Try.ntmps31
          go_wp2_with (go_at_call 52; (with_reducible refine (KE.out _).mono ?_); rintro e w1 ⟨rfl, rfl⟩)
          go_ret
          refine ⟨?_, bel (bel_alloc _ _) (bel_alloc _ _)⟩
          first | rfl | simp [*]
        · have h1 : (N : Int) ≤ A := by unfold isPl at hpl; simp at hpl; omega
          go_enter Try.func31, Try.ntmps31
          go_wp2_with (go_at_call 52; (with_reducible refine (KE.out _).mono ?_); rintro e w1 ⟨rfl, rfl⟩)
          go_ret
          refine ⟨?_, bel (bel_alloc _ _) (bel_alloc _ _)⟩
          first | rfl | simp [*]
      · rw [e9]
        clear key e9
        have g0 : ∀ o o', ((w.alloc o).alloc o').cell? ⟨lb, lo + k * 2, none⟩ = some (.int .i64 K) := fun o o' => kc (bel (bel_alloc _ _) (bel_alloc _ _)) y0
        have g1 : ∀ o o', ((w.alloc o).alloc o').cell? ⟨lb, lo + k * 2 + 1, none⟩ = some (.int .i64 P) := fun o o' => kc (bel (bel_alloc _ _) (bel_alloc _ _)) y1
        by_cases h3 : K = 3
        · subst h3
          go_enter Try.func31, Try.ntmps31
          go_wp2_with (go_at_call 52; (with_reducible refine (KE.out _).mono ?_); rintro e w1 ⟨rfl, rfl⟩)
          go_ret
          refine ⟨?_, bel (bel_alloc _ _) (bel_alloc _ _)⟩
          first | rfl | simp [*]
        · have h3' : (K == 3) = false := by simpa using h3
          have h3b : (K != 3) = true := by simpa using h3
          rw [h3']
          clear h3
          go_enter Try.func31, Try.ntmps31
          go_wp2_with (go_at_call 52; (with_reducible refine (KE.out _).mono ?_); rintro e w1 ⟨rfl, rfl⟩)
          go_ret
          refine ⟨?_, bel (bel_alloc _ _) (bel_alloc _ _)⟩
          first | rfl | simp [*]
    · have b29 : (op == 29) = false := by simpa using a29
      have b30 : (op == 30) = false := by simpa using a30
      have b31 : (op == 31) = false := by simpa using a31
      have b32 : (op == 32) = false := by simpa using a32
      have b33 : (op == 33) = false := by simpa using a33
      rw [show vecN ⟨op, D, A, B, E, nn, bb⟩ = -1 by unfold vecN; simp [hX, b29, b30, b31, b32, b33]]
      rw [show vecR c.regs (-1) = -1 by unfold vecR isPl; simp]
      clear key a29 a30 a31 a32 a33
      go_enter Try.func31, Try.ntmps31
      go_wp2_with (go_at_call 52; (with_reducible refine (KE.out _).mono ?_); rintro e w1 ⟨rfl, rfl⟩)
      go_ret
      refine ⟨?_, bel (bel_alloc _ _) (bel_alloc _ _)⟩
      first | rfl | simp [*]
  · rw [hX] at KE
    rw [show vecN ⟨op, D, A, B, E, nn, bb⟩ = D by unfold vecN; simp [hX]]
    rcases key D with ⟨hpl, e9⟩ | ⟨k, lb, lo, K, P, rfl, hkl, rfl, y0, y1, e9⟩
    · rw [e9]
      clear key e9
      by_cases h0 : D < 0
      · go_enter Try.func31, Try.ntmps31
        go_wp2_with (go_at_call 52; (with_reducible refine (KE.out _).mono ?_); rintro e w1 ⟨rfl, rfl⟩)
        go_ret
        refine ⟨?_, bel (bel_alloc _ _) (bel_alloc _ _)⟩
        first | rfl | simp [*]
      · have h1 : (N : Int) ≤ D := by unfold isPl at hpl; simp at hpl; omega
        go_enter Try.func31, Try.ntmps31
        go_wp2_with (go_at_call 52; (with_reducible refine (KE.out _).mono ?_); rintro e w1 ⟨rfl, rfl⟩)
        go_ret
        refine ⟨?_, bel (bel_alloc _ _) (bel_alloc _ _)⟩
        first | rfl | simp [*]
    · rw [e9]
      clear key e9
      have g0 : ∀ o o', ((w.alloc o).alloc o').cell? ⟨lb, lo + k * 2, none⟩ = some (.int .i64 K) := fun o o' => kc (bel (bel_alloc _ _) (bel_alloc _ _)) y0
      have g1 : ∀ o o', ((w.alloc o).alloc o').cell? ⟨lb, lo + k * 2 + 1, none⟩ = some (.int .i64 P) := fun o o' => kc (bel (bel_alloc _ _) (bel_alloc _ _)) y1
      by_cases h3 : K = 3
      · subst h3
        go_enter Try.func31, Try.ntmps31
        go_wp2_with (go_at_call 52; (with_reducible refine (KE.out _).mono ?_); rintro e w1 ⟨rfl, rfl⟩)
        go_ret
        refine ⟨?_, bel (bel_alloc _ _) (bel_alloc _ _)⟩
        first | rfl | simp [*]
      · have h3' : (K == 3) = false := by simpa using h3
        have h3b : (K != 3) = true := by simpa using h3
        rw [h3']
        clear h3
        go_enter Try.func31, Try.ntmps31
        go_wp2_with (go_at_call 52; (with_reducible refine (KE.out _).mono ?_); rintro e w1 ⟨rfl, rfl⟩)
        go_ret
        refine ⟨?_, bel (bel_alloc _ _) (bel_alloc _ _)⟩
        first | rfl | simp [*]

end Go.Proofs.Ytgnjhjkbnchdmaa
/- The walks of package bits and of its reference: integers alone. -/
namespace Go.Proofs.Ytgnjhjkbnchdmaa
open Go.RowKit
set_option linter.unusedVariables false

end Go.Proofs.Ytgnjhjkbnchdmaa
namespace Go.Proofs.Ytgnjhjkbnchdmaa
set_option linter.unusedVariables false

/-- The value of rung k, in units of the least place; p: the fraction's bits. -/
def V (p k : Nat) : Nat := if k < 2 ^ p then k else (2 ^ p + k % 2 ^ p) * 2 ^ (k / 2 ^ p - 1)

/-- The rung nearest to mag * 2^place. -/
def rungOf (p : Nat) (L : Int) (mag : Nat) (place : Int) : Nat :=
  if mag = 0 then 0 else
  (max (place + mag.log2 - p) L - L).toNat * 2 ^ p + Ieee.Toward.even.cut false (mag <<< (place - max (place + mag.log2 - p) L).toNat) (max (place + mag.log2 - p) L - place).toNat

/-! ## Words of binary32 -/
def ng (a : Nat) : Bool := a / 2147483648 % 2 == 1
def rg (a : Nat) : Nat := a % 2147483648
def mv (a : Nat) : Nat := V 23 (rg a)
def sg (s : Bool) (m : Nat) : Int := if s then -(m : Int) else m
def sv (a : Nat) : Int := sg (ng a) (mv a)
def R (n : Nat) : Nat := rungOf 23 (-149) n (-149)

end Go.Proofs.Ytgnjhjkbnchdmaa
/- The operations of binary32 as functions of patterns, and what the machine's NaNs come to. -/
namespace Go.Proofs.Ytgnjhjkbnchdmaa
set_option linter.unusedVariables false

section
variable {P : Program} (w : World)
end

end Go.Proofs.Ytgnjhjkbnchdmaa
/- Worlds that keep what lay there, one behind the other. -/
namespace Go.Proofs.Ytgnjhjkbnchdmaa
open Go.RowKit

end Go.Proofs.Ytgnjhjkbnchdmaa
/- The walks of package float. -/
namespace Go.Proofs.Ytgnjhjkbnchdmaa
open Go.RowKit
set_option linter.unusedVariables false

section
variable {P : Program} (w : World)
end

end Go.Proofs.Ytgnjhjkbnchdmaa
/- The root: by way of binary64, and of binary32 itself: the same. -/
namespace Go.Proofs.Ytgnjhjkbnchdmaa
open Go.RowKit
set_option linter.unusedVariables false

section
variable {P : Program} (w : World)
end

end Go.Proofs.Ytgnjhjkbnchdmaa
/- The order of binary32, by value; signs turned. -/
namespace Go.Proofs.Ytgnjhjkbnchdmaa
set_option linter.unusedVariables false

end Go.Proofs.Ytgnjhjkbnchdmaa
/- The head of the statements of layer 2. -/
namespace Go.Proofs.Ytgnjhjkbnchdmaa
open Go.RowKit
set_option linter.unusedVariables false

end Go.Proofs.Ytgnjhjkbnchdmaa
/- The walks of the reference of layer 2: numbers, rounding. -/
namespace Go.Proofs.Ytgnjhjkbnchdmaa
open Go.RowKit
set_option linter.unusedVariables false

theorem and_mask64 (a : Int) (k : Nat) (hk : k < 64) (h0 : 0 ≤ a) (h1 : a < 18446744073709551616) : bits .and .u64 a ((2 ^ k - 1 : Nat) : Int) = a % ((2 ^ k : Nat) : Int) := by
  have hp : 2 ^ k < 2 ^ 64 := Nat.pow_lt_pow_right (by omega) hk
  have hq : 0 < 2 ^ k := Nat.two_pow_pos k
  obtain ⟨n, rfl⟩ := Int.eq_ofNat_of_zero_le h0
  rw [u64_and _ _ h0 h1 (by omega) (by omega), Int.toNat_natCast, Int.toNat_natCast, Nat.and_two_pow_sub_one_eq_mod]
  rfl
theorem and64_8 (a : Int) (h0 : 0 ≤ a) (h1 : a < 18446744073709551616) : bits .and .u64 a 255 = a % 256 := and_mask64 a 8 (by decide) h0 h1
theorem and64_23 (a : Int) (h0 : 0 ≤ a) (h1 : a < 18446744073709551616) : bits .and .u64 a 8388607 = a % 8388608 := and_mask64 a 23 (by decide) h0 h1

def nMin (a : Int) : Bool := a / 2147483648 == 1
def nM (a : Int) : Int := if a / 8388608 % 256 = 255 then 0 else if a / 8388608 % 256 = 0 then a % 8388608 else 8388608 + a % 8388608
def nE (a : Int) : Int := if a / 8388608 % 256 = 255 then 0 else if a / 8388608 % 256 = 0 then -149 else a / 8388608 % 256 - 150
def nInf (a : Int) : Bool := if a / 8388608 % 256 = 255 then a % 8388608 == 0 else false
def nNan (a : Int) : Bool := if a / 8388608 % 256 = 255 then a % 8388608 != 0 else false

set_option maxHeartbeats 400000 in
theorem rof_any (a : Int) (h0 : 0 ≤ a) (h1 : a < 4294967296) (w : World) :
    Calls Try.prog 62 #[.int .i64 a] w fun e w' => e = .returned (.agg #[.bool (nMin a), .int .u64 (nM a), .int .i64 (nE a), .bool (nInf a), .bool (nNan a)]) ∧ ∃ o, w' = (w.alloc o).alloc o := by
  have e1 := and64_8 (a / 8388608) (by omega) (by omega)
  have e2 := and64_23 a h0 (by omega)
  by_cases c : a / 8388608 % 256 = 255
  · have f1 : nM a = 0 := by unfold nM; rw [if_pos c]
    have f2 : nE a = 0 := by unfold nE; rw [if_pos c]
    have f3 : nInf a = (a % 8388608 == 0) := by unfold nInf; rw [if_pos c]
    have f4 : nNan a = (a % 8388608 != 0) := by unfold nNan; rw [if_pos c]
    rw [f1, f2, f3, f4]; unfold nMin; clear f1 f2 f3 f4
    go_enter Try.func62, Try.ntmps62
    go_wp2
    go_returns
    exact ⟨rfl, _, rfl⟩
  · by_cases c2 : a / 8388608 % 256 = 0
    · have f1 : nM a = a % 8388608 := by unfold nM; rw [if_neg c, if_pos c2]
      have f2 : nE a = -149 := by unfold nE; rw [if_neg c, if_pos c2]
      have f3 : nInf a = false := by unfold nInf; rw [if_neg c]
      have f4 : nNan a = false := by unfold nNan; rw [if_neg c]
      rw [f1, f2, f3, f4]; unfold nMin; clear f1 f2 f3 f4
      go_enter Try.func62, Try.ntmps62
      go_wp2
      go_returns
      exact ⟨rfl, _, rfl⟩
    · have f1 : nM a = 8388608 + a % 8388608 := by unfold nM; rw [if_neg c, if_neg c2]
      have f2 : nE a = a / 8388608 % 256 - 150 := by unfold nE; rw [if_neg c, if_neg c2]
      have f3 : nInf a = false := by unfold nInf; rw [if_neg c]
      have f4 : nNan a = false := by unfold nNan; rw [if_neg c]
      rw [f1, f2, f3, f4]; unfold nMin; clear f1 f2 f3 f4
      go_enter Try.func62, Try.ntmps62
      go_wp2
      go_returns
      exact ⟨rfl, _, rfl⟩

end Go.Proofs.Ytgnjhjkbnchdmaa
/- Round, of the reference of layer 2. -/
namespace Go.Proofs.Ytgnjhjkbnchdmaa
open Go.RowKit
set_option linter.unusedVariables false

end Go.Proofs.Ytgnjhjkbnchdmaa
/- The operations of the reference of layer 2. -/
namespace Go.Proofs.Ytgnjhjkbnchdmaa
open Go.RowKit
set_option linter.unusedVariables false

theorem nNan_iff (a : Int) (h0 : 0 ≤ a) (h1 : a < 4294967296) : nNan a = nan a := by
  unfold nNan nan
  by_cases c : a / 8388608 % 256 = 255
  · rw [if_pos c]
    by_cases d : a % 8388608 = 0
    · have : ¬ (2139095040 < a % 2147483648) := by omega
      simp [d, this]
    · have : 2139095040 < a % 2147483648 := by omega
      simp [d, this]
  · rw [if_neg c]; have : ¬ (2139095040 < a % 2147483648) := by omega
    simp [this]
theorem field_nan (w : World) (v0 v1 v2 v3 v4 : Value) : (Instr.field 112 (.agg #[v0, v1, v2, v3, v4]) 4).run Try.prog w = .ok v4 w := by
  simp [Instr.field, run_underlying Try.underlying112, asAgg, part, go_sem]

end Go.Proofs.Ytgnjhjkbnchdmaa
/- The order of the reference of layer 2. -/
namespace Go.Proofs.Ytgnjhjkbnchdmaa
open Go.RowKit
set_option linter.unusedVariables false

set_option maxHeartbeats 400000 in
theorem rcanon2_any (a : Int) (h0 : 0 ≤ a) (h1 : a < 4294967296) (w : World) :
    Calls Try.prog 49 #[.int .i64 a] w fun e w' => e = .returned (.int .i64 (canon a)) ∧ Below w.heap.size w w' := by
  have hf := field_nan
  unfold canon
  rw [← nNan_iff a h0 h1]
  cases hna : nNan a
  · rw [if_neg (by decide)]
    go_enter Try.func49, Try.ntmps49
    go_wp2_with (go_at_call 62; refine (rof_any _ (by omega) (by omega) _).mono ?_; rintro e w' ⟨rfl, o, rfl⟩)
    go_ret
    exact ⟨rfl, by go_grown⟩
  · rw [if_pos rfl]
    go_enter Try.func49, Try.ntmps49
    go_wp2_with (go_at_call 62; refine (rof_any _ (by omega) (by omega) _).mono ?_; rintro e w' ⟨rfl, o, rfl⟩)
    go_ret
    exact ⟨rfl, by go_grown⟩

end Go.Proofs.Ytgnjhjkbnchdmaa
/- The reference of layer 16: numbers that are told, slots. -/
namespace Go.Proofs.Ytgnjhjkbnchdmaa
open Go.RowKit
set_option linter.unusedVariables false
set_option linter.unusedSimpArgs false

set_option maxRecDepth 100000 in
set_option maxHeartbeats 1000000 in
theorem rcanonical_any (a : Int) (h0 : 0 ≤ a) (h1 : a < 4294967296) (w : World) : Calls Try.prog 29 #[.int .u32 a] w fun e w' => e = .returned (.bool (toldB a)) ∧ Below w.heap.size w w' := by
  have hc : toldB a = (canon a == a) := by unfold toldB canon; cases nan a <;> rw [Bool.eq_iff_iff] <;> simp
  rw [hc]
  have HK : Hid (∀ w, Calls Try.prog 49 #[.int .i64 a] w fun e w' => e = .returned (.int .i64 (canon a)) ∧ Below w.heap.size w w') := rcanon2_any a h0 h1
  have hw : IntKind.i64.wrap a = a := by rw [IntKind.wrap_i64]; omega
  clear hc
  obtain ⟨x, hx⟩ : ∃ x, canon a = x := ⟨_, rfl⟩
  rw [hx] at HK ⊢
  clear hx
  go_enter Try.func29, Try.ntmps29
  go_wp2_with (go_at_call 49; refine (HK.out _).mono ?_; rintro e w1 ⟨rfl, hb1⟩; have HB1 : Hid _ := hb1; clear hb1)
  go_ret
  exact ⟨rfl, HB1.out⟩

set_option maxRecDepth 100000 in
set_option maxHeartbeats 1000000 in
theorem rmaySlot_any (s : Sl) (h0 : 0 ≤ s.bits) (h1 : s.bits < 4294967296) (p : Option Addr) (n c : Nat) (hn : n ≤ 140737488351232) (w : World) :
    Calls Try.prog 12 #[slV s, .slice p n c] w fun e w' => e = .returned (.bool (slotMay s n)) ∧ Below w.heap.size w w' := by
  have HK : Hid (∀ w, Calls Try.prog 29 #[.int .u32 s.bits] w fun e w' => e = .returned (.bool (toldB s.bits)) ∧ Below w.heap.size w w') := rcanonical_any s.bits h0 h1
  have HT : Hid (∀ w, Calls Try.prog 11 #[tyV s.ty, .slice p n c] w fun e w' => e = .returned (.bool (typeMay s.ty n)) ∧ Below w.heap.size w w') := rmayType_any s.ty p n c hn
  obtain ⟨⟨K, P⟩, Q, B, I⟩ := s
  unfold slotMay begins slV wholeB
  unfold tyV at HT
  simp only at HK HT h0 h1 ⊢
  obtain ⟨X, hX⟩ : ∃ X, toldB B = X := ⟨_, rfl⟩
  obtain ⟨Y, hY⟩ : ∃ Y, typeMay ⟨K, P⟩ n = Y := ⟨_, rfl⟩
  rw [hX] at HK ⊢
  rw [hY] at HT ⊢
  clear hX hY
  cases Y
  · rw [Bool.false_and]
    go_enter Try.func12, Try.ntmps12
    go_wp2_with (first
      | (go_at_call 11; refine (HT.out _).mono ?_; rintro e w1 ⟨rfl, hb1⟩; have f0 : w1.cell? ⟨w.heap.size, 0, none⟩ = some (.int .i64 K) := kc hb1 (by simp [go_sem]); have f3 : w1.cell? ⟨w.heap.size, 3, none⟩ = some (.int .u32 B) := kc hb1 (by simp [go_sem]); have f4 : w1.cell? ⟨w.heap.size, 4, none⟩ = some (.int .i64 I) := kc hb1 (by simp [go_sem]); have HB1 : Hid _ := hb1; clear hb1)
      | (go_at_call 29; refine (HK.out _).mono ?_; rintro e w2 ⟨rfl, hb2⟩; have HB2 : Hid _ := hb2; clear hb2))
    go_ret
    first
      | refine ⟨ret_bool ?_, bel (bel_alloc _ _) (bel HB1.out HB2.out)⟩
      | refine ⟨ret_bool ?_, bel (bel_alloc _ _) HB1.out⟩
    first
      | (simp [*]; done)
      | (simp [*]; omega)
      | (simp [*]; intro h; omega)
  · rw [Bool.true_and]
    by_cases h2 : K = 2
    · subst h2
      rw [if_pos rfl]
      cases hb : (B == 0)
      · have hb' : (B != 0) = true := by simpa using hb
        go_enter Try.func12, Try.ntmps12
        go_wp2_with (first
          | (go_at_call 11; refine (HT.out _).mono ?_; rintro e w1 ⟨rfl, hb1⟩; have f0 : w1.cell? ⟨w.heap.size, 0, none⟩ = some (.int .i64 2) := kc hb1 (by simp [go_sem]); have f3 : w1.cell? ⟨w.heap.size, 3, none⟩ = some (.int .u32 B) := kc hb1 (by simp [go_sem]); have f4 : w1.cell? ⟨w.heap.size, 4, none⟩ = some (.int .i64 I) := kc hb1 (by simp [go_sem]); have HB1 : Hid _ := hb1; clear hb1)
          | (go_at_call 29; refine (HK.out _).mono ?_; rintro e w2 ⟨rfl, hb2⟩; have HB2 : Hid _ := hb2; clear hb2))
        go_ret
        first
          | refine ⟨ret_bool ?_, bel (bel_alloc _ _) (bel HB1.out HB2.out)⟩
          | refine ⟨ret_bool ?_, bel (bel_alloc _ _) HB1.out⟩
        first
          | (simp [*]; done)
          | (simp [*]; omega)
          | (simp [*]; intro h; omega)
      · by_cases hi : 0 ≤ I
        all_goals
          go_enter Try.func12, Try.ntmps12
          go_wp2_with (first
            | (go_at_call 11; refine (HT.out _).mono ?_; rintro e w1 ⟨rfl, hb1⟩; have f0 : w1.cell? ⟨w.heap.size, 0, none⟩ = some (.int .i64 2) := kc hb1 (by simp [go_sem]); have f3 : w1.cell? ⟨w.heap.size, 3, none⟩ = some (.int .u32 B) := kc hb1 (by simp [go_sem]); have f4 : w1.cell? ⟨w.heap.size, 4, none⟩ = some (.int .i64 I) := kc hb1 (by simp [go_sem]); have HB1 : Hid _ := hb1; clear hb1)
            | (go_at_call 29; refine (HK.out _).mono ?_; rintro e w2 ⟨rfl, hb2⟩; have HB2 : Hid _ := hb2; clear hb2))
          go_ret
          first
            | refine ⟨ret_bool ?_, bel (bel_alloc _ _) (bel HB1.out HB2.out)⟩
            | refine ⟨ret_bool ?_, bel (bel_alloc _ _) HB1.out⟩
          first
            | (simp [*]; done)
            | (simp [*]; omega)
            | (simp [*]; intro h; omega)
    · rw [if_neg h2]
      have h2' : (K == 2) = false := by simpa using h2
      clear h2
      cases hi : (I == 0)
      all_goals
        go_enter Try.func12, Try.ntmps12
        go_wp2_with (first
          | (go_at_call 11; refine (HT.out _).mono ?_; rintro e w1 ⟨rfl, hb1⟩; have f0 : w1.cell? ⟨w.heap.size, 0, none⟩ = some (.int .i64 K) := kc hb1 (by simp [go_sem]); have f3 : w1.cell? ⟨w.heap.size, 3, none⟩ = some (.int .u32 B) := kc hb1 (by simp [go_sem]); have f4 : w1.cell? ⟨w.heap.size, 4, none⟩ = some (.int .i64 I) := kc hb1 (by simp [go_sem]); have HB1 : Hid _ := hb1; clear hb1)
          | (go_at_call 29; refine (HK.out _).mono ?_; rintro e w2 ⟨rfl, hb2⟩; have HB2 : Hid _ := hb2; clear hb2))
        go_ret
        first
          | refine ⟨ret_bool ?_, bel (bel_alloc _ _) (bel HB1.out HB2.out)⟩
          | refine ⟨ret_bool ?_, bel (bel_alloc _ _) HB1.out⟩
        first
          | (simp [*]; done)
          | (simp [*]; omega)
          | (simp [*]; intro h; omega)

end Go.Proofs.Ytgnjhjkbnchdmaa
