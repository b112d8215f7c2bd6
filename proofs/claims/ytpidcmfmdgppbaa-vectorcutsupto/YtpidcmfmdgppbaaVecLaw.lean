import Derived.Test.YtpidcmfmdgppbaaVecPlain
import Derived.Maps.AppendAt
import Derived.Laws.AppendOwnNone
/- The helpers of layer 5's statements: ints, lists, same, twin, twins, alike. -/
namespace Go.Proofs.Ytpidcmfmdgppbaa
open Go.RowKit
set_option linter.unusedVariables false

def vals (X : Nat → Value) (n : Nat) : List Value := (List.range n).map X
theorem vals_len (X : Nat → Value) (n : Nat) : (vals X n).length = n := by simp [vals]
theorem vals_at (X : Nat → Value) (n i : Nat) (h : i < n) : (vals X n)[i]? = some (X i) := by simp [vals, h]
theorem vals_succ (X : Nat → Value) (n : Nat) : vals X (n + 1) = vals X n ++ [X n] := by unfold vals; rw [List.range_succ]; simp
theorem vals_congr {X Y : Nat → Value} {n : Nat} (h : ∀ i, i < n → X i = Y i) : vals X n = vals Y n := by
  unfold vals; exact List.map_congr_left fun i hi => h i (by simpa using hi)

/-- A slice that the call owns: its shape, where it lies, and what it reads. -/
theorem own_form2 {w : World} {base : Nat} {e : TypeId} {v : Value} {n : Nat} {X : Nat → Value} (h : w.ownsRow base e 1 v n (vals X n)) :
    ∃ q cap, v = .slice q n cap ∧ Reads w q n X ∧ (∀ b o s, q = some ⟨b, o, s⟩ → base ≤ b) ∧ (q = none → n = 0 ∧ cap = 0) ∧ n ≤ cap := by
  rcases h.2 with ⟨rfl, hx⟩ | ⟨g, cap, cur, rfl, hb, hg, rest⟩
  · subst hx
    exact ⟨none, 0, rfl, .inl rfl, fun b o s e => (by cases e), fun _ => ⟨rfl, rfl⟩, Nat.le_refl _⟩
  · refine ⟨some ⟨g, 0, none⟩, cap, rfl, .inr ⟨g, 0, rfl, fun i hi => ?_⟩, fun b o s e => (by cases e; exact hb), fun e => (by cases e), rest.1⟩
    have := h.cells (g := g) rfl i (X i) (vals_at X n i hi)
    rw [Nat.zero_add]
    by_cases c : i = 0
    · subst c; simpa [Addr.add] using this
    · simpa [Addr.add, c] using this

theorem info_I : (Try.prog.info? 3).map (fun i => (i.zero, i.size, i.bytes)) = some (some (.int .i64 0), 1, 8) := by kernel_rfl

set_option maxHeartbeats 1000000 in
theorem ints_any (p : Option Addr) (n c : Nat) (X : Nat → Int) (hX : ∀ i, IsP (X i)) (hn : n ≤ 1048576) (w : World) (hp : Reads w p n (fun i => .int .u32 (X i))) :
    Calls Try.prog 18 #[.slice p n c] w fun e w' => ∃ q cap, e = .returned (.slice q n cap) ∧ Reads w' q n (fun i => .int .i64 (X i)) ∧ (∀ b o s, q = some ⟨b, o, s⟩ → w.heap.size ≤ b) ∧ Below w.heap.size w w' := by
  obtain ⟨i0, hi0, hz0, hz1, hz2⟩ := info_parts info_I
  go_enter Try.func18, Try.ntmps18
  go_wp2
  go_loopw [3, 4] (fun ov iv wr => Below w.heap.size w wr ∧ ∃ (k : Nat) (v : Value), v = ov ∧ k ≤ n ∧ iv = .int .i64 k ∧ Hid (wr.ownsRow w.heap.size 3 1 v k (vals (fun i => .int .i64 (X i)) k))) (fun _ iv _ => n - (intOf iv).toNat)
  case atStart => exact ⟨bel0 w, 0, _, rfl, Nat.zero_le _, rfl, World.ownsRow_nil _ _ _ _⟩
  case round =>
    obtain ⟨hb, k, ov, rfl, hk, rfl, hown⟩ := hrel
    by_cases hlt : k < n
    · rcases hp with hp | ⟨b, o, rfl, hp⟩
      · omega
      have hbl : b < w.heap.size := mcell_lt (hp k hlt)
      have h1 : wr.cell? ⟨b, o + k, none⟩ = some (.int .u32 (X k)) := (hb.cell hbl).trans (hp k hlt)
      have i1 : (0 : Int) ≤ (k : Int) := by omega
      have i2 : (k : Int) < (n : Int) := by omega
      have x0 := (hX k).1
      have x1 := (hX k).2
      have sz := hb.size
      have hob : Hid (∀ j, ov.ownBlock = some j → w.heap.size ≤ j ∧ j < wr.heap.size) := hown.out.lt
      clear hp hX
      go_wp2_with (at_builtin; refine wpList_append_own _ rfl _ _ 28 rfl w.heap.size 3 i0 _ 1 8 Try.underlying28 hi0 hz0 hz1 hz2 rfl (by decide) ov k (vals (fun i => .int .i64 (X i)) k) rfl (hown.out.alloc _) ⟨wr.heap.size, 0, none⟩ 1 1 [.int .i64 (X k)] rfl rfl (World.news_of_block (cs := #[.int .i64 (X k)]) (t := 3) (fr := (0, 0)) (heap_alloc_new wr _)) (by simp [Value.oneCell']) (by unfold maxLen; omega) (by omega) (by simp; omega) ?_; intro v' w1 hown1 hgrow hnil; have HB : Below w.heap.size w w1 := Below.grown (hb.alloc sz _) hgrow (by simp; omega) (fun j e => (hob.out j e).1); have HO : Hid (w1.ownsRow w.heap.size 3 1 v' (k + 1) (vals (fun i => .int .i64 (X i)) k ++ [.int .i64 (X k)])) := hown1; clear hown1 hgrow hnil)
      go_roundw
      case rel => exact ⟨HB, k + 1, _, rfl, by omega, by go_num, by rw [vals_succ]; exact HO⟩
      case measure => simp [intOf]; omega
    · have : k = n := by omega
      subst this
      obtain ⟨q, cap, rfl, hR, hg, -⟩ := own_form2 hown.out
      have HR : Hid (Reads wr q k (fun i => .int .i64 (X i)) ∧ (∀ b o s, q = some ⟨b, o, s⟩ → w.heap.size ≤ b)) := ⟨hR, hg⟩
      clear hp hX hR hg hown
      go_wp2
      go_ret
      exact ⟨_, _, rfl, HR.out.1, HR.out.2, hb⟩

set_option maxHeartbeats 1000000 in
theorem same5_any (p q : Option Addr) (n c c' : Nat) (X : Nat → Int) (hX : ∀ i, i < n → IsP (X i)) (w : World) (hn : n ≤ 1048576) (hp : Reads w p n (fun i => .int .u32 (X i))) (hq : Reads w q n (fun i => .int .i64 (X i))) :
    Calls Try.prog 13 #[.slice p n c, .slice q n c'] w fun e w' => e = .returned (.bool true) ∧ Below w.heap.size w w' := by
  go_enter Try.func13, Try.ntmps13
  go_wp2
  go_loopw [5] (fun iv wr => (∃ j, wr = w.drewN j) ∧ ∃ k : Nat, k ≤ n ∧ iv = .int .i64 k) (fun iv _ => n - (intOf iv).toNat)
  case atStart => exact ⟨⟨0, rfl⟩, 0, Nat.zero_le _, rfl⟩
  case round =>
    obtain ⟨⟨j, rfl⟩, k, hk, rfl⟩ := hrel
    by_cases hlt : k < n
    · rcases hp with hp | ⟨b, o, rfl, hp⟩
      · omega
      rcases hq with hq | ⟨b', o', rfl, hq⟩
      · omega
      have h1 := hp k hlt
      have h2 := hq k hlt
      have i1 : (0 : Int) ≤ (k : Int) := by omega
      have i2 : (k : Int) < (n : Int) := by omega
      have x0 := (hX k hlt).1
      have x1 := (hX k hlt).2
      clear hp hq hX
      go_wp2
      go_quiet (fail)
      go_wp2
      go_roundw
      case rel => exact ⟨⟨_, rfl⟩, k + 1, by omega, by go_num⟩
      case measure => simp [intOf]; omega
    · have : k = n := by omega
      subst this
      clear hp hq hX
      go_wp2
      go_ret
      exact ⟨rfl, mbel_dn w j⟩

set_option maxHeartbeats 400000 in
theorem alike_any (p q : Option Addr) (n c c' : Nat) (X : Nat → Int) (hX : ∀ i, IsP (X i)) (w : World) (hn : n ≤ 1048576) (hp : Reads w p n (fun i => .int .u32 (X i))) (hq : Reads w q n (fun i => .int .u32 (X i))) :
    Calls Try.prog 14 #[.slice p n c, .slice q n c'] w fun e w' => e = .returned (.bool true) ∧ Below w.heap.size w w' := by
  have HP : Hid (Reads w p n (fun i => .int .u32 (X i))) := hp
  have HQ : Hid (Reads w q n (fun i => .int .u32 (X i))) := hq
  have HX : Hid (∀ i, IsP (X i)) := hX
  clear hp hq hX
  go_enter Try.func14, Try.ntmps14
  go_wp2_with (first
    | (go_at_call 18; refine (ints_any _ _ _ X HX.out hn _ HQ.out).mono ?_; rintro e w1 ⟨q1, c1, rfl, hR1, -, hb1⟩; have HR1 : Hid (Reads w1 q1 n (fun i => .int .i64 (X i))) := hR1; clear hR1)
    | (go_at_call 13; refine (same5_any _ _ _ _ _ X (fun i _ => HX.out i) _ hn (HP.out.below hb1) HR1.out).mono ?_; rintro e w2 ⟨rfl, hb2⟩))
  go_ret
  exact ⟨rfl, bel hb1 hb2⟩

set_option maxRecDepth 100000 in
set_option maxHeartbeats 1000000 in
theorem twin_any (p : Option Addr) (n c : Nat) (X : Nat → Int) (w : World) (hn : n ≤ 1048576) (h0 : p = none → n = 0 ∧ c = 0) (hp : Reads w p n (fun i => .int .u32 (X i))) :
    Calls Try.prog 37 #[.slice p n c] w fun e w' => ∃ q cap, e = .returned (.slice q n cap) ∧ Reads w' q n (fun i => .int .u32 (X i)) ∧ (∀ b o s, q = some ⟨b, o, s⟩ → w.heap.size ≤ b) ∧ (q = none → n = 0 ∧ cap = 0) ∧ n ≤ cap ∧ Below w.heap.size w w' := by
  obtain ⟨i0, hi0, hz0, hz1, hz2⟩ := info_parts info_F
  cases p with
  | none =>
    obtain ⟨rfl, rfl⟩ := h0 rfl
    clear hp
    go_enter Try.func37, Try.ntmps37
    go_wp2_with (at_builtin; refine wpList_append_own_none rfl _ _ 24 rfl w.heap.size 38 i0 1 Try.underlying24 hi0 (.slice none 0 0) 0 [] rfl (World.ownsRow_nil _ _ _ _) rfl ?_)
    go_ret
    refine ⟨none, 0, rfl, .inl rfl, (fun b o s e => by cases e), by simp, ?_⟩
    first | exact bel0 w | exact ⟨Nat.le_refl _, bel0 w⟩
  | some a =>
    have HC : Hid (∀ j u, (vals (fun i => .int .u32 (X i)) n)[j]? = some u → w.cell? (a.add j) = some u) := by
      rcases hp with hp | ⟨b, o, e, hp⟩
      · subst hp; intro j u hu; simp [vals] at hu
      · cases e
        intro j u hu
        have hj : j < n := by
          rcases Nat.lt_or_ge j n with c | c
          · exact c
          · rw [List.getElem?_eq_none (by rw [vals_len]; exact c)] at hu; cases hu
        rw [vals_at _ n j hj] at hu
        cases hu
        have := hp j hj
        by_cases c : j = 0
        · subst c; simpa [Addr.add] using this
        · simpa [Addr.add, c] using this
    clear hp h0
    go_enter Try.func37, Try.ntmps37
    go_wp2_with (at_builtin; refine wpList_append_own_at w rfl _ _ 24 rfl w.heap.size 38 i0 _ 1 4 Try.underlying24 hi0 hz0 hz1 hz2 rfl (by decide) (.slice none 0 0) 0 [] rfl (World.ownsRow_nil _ _ _ _) a n c (vals (fun i => .int .u32 (X i)) n) rfl (by rw [vals_len, Nat.mul_one]) HC.out (by intro u hu; simp [vals] at hu; obtain ⟨i, -, rfl⟩ := hu; rfl) (by unfold maxLen; omega) (by omega) (Nat.le_refl _) ?_; intro v' w1 hown hgrow _ hat; simp only [Nat.zero_add, List.nil_append] at hown; obtain ⟨q, cap, rfl, hR, hg, h00, hnc⟩ := own_form2 hown; have HR : Hid (Reads w1 q n (fun i => .int .u32 (X i)) ∧ (∀ b o s, q = some ⟨b, o, s⟩ → w.heap.size ≤ b) ∧ (q = none → n = 0 ∧ cap = 0)) := ⟨hR, hg, h00⟩; have HB : Below w.heap.size w w1 := Below.grown (bel0 w) hgrow (Nat.le_refl _) (fun k e => by simp [Value.ownBlock] at e); clear hown hgrow hat hR hg h00)
    go_ret
    exact ⟨_, _, rfl, HR.out.1, HR.out.2.1, HR.out.2.2, hnc, HB⟩

end Go.Proofs.Ytpidcmfmdgppbaa
