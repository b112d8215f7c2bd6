import Derived.Test.YtpidcmfmdgppbaaVecPlain
import Derived.Shelf.Abstract
/- Package vector: its sums. -/
namespace Go.Proofs.Ytpidcmfmdgppbaa
open Go.RowKit
set_option linter.unusedVariables false

def Ent (k : Nat) : Prop := ∀ (args : Array Value) (w : World), (callFunc k args).run Try.prog w = .ok (.enter k args) w

set_option maxRecDepth 100000 in
set_option maxHeartbeats 1000000 in
theorem gather_any (k : Nat) (hen : Ent k) (f : Int → Int → Int) (hf : ∀ a b, IsP a → IsP b → IsP (f a b))
    (hk : ∀ a b (v : World), IsP a → IsP b → Calls Try.prog k #[.int .u32 a, .int .u32 b] v fun e v' => e = .returned (.int .u32 (f a b)) ∧ Below v.heap.size v v')
    (s : Int) (hs : IsP s) (p : Option Addr) (n c : Nat) (X : Nat → Int) (hX : ∀ i, IsP (X i)) (hn : n ≤ 1048576) (w : World) (hp : Reads w p n (fun i => .int .u32 (X i))) :
    Calls Try.prog 49 #[.int .u32 s, .slice p n c, .func (.func k) #[] #[]] w fun e w' => e = .returned (.int .u32 (foldx f s X n)) ∧ Below w.heap.size w w' := by
  unfold Ent at hen
  go_enter Try.func49, Try.ntmps49
  go_wp2
  go_loopw [0, 11] (fun sv iv wr => Below w.heap.size w wr ∧ ∃ j : Nat, j ≤ n ∧ iv = .int .i64 j ∧ sv = .int .u32 (foldx f s X j)) (fun _ iv _ => n - (intOf iv).toNat)
  case atStart => exact ⟨bel0 w, 0, Nat.zero_le _, rfl, rfl⟩
  case round =>
    obtain ⟨hb, j, hj, rfl, rfl⟩ := hrel
    by_cases hlt : j < n
    · rcases hp with hp | ⟨b, o, rfl, hp⟩
      · omega
      have hbl : b < w.heap.size := mcell_lt (hp j hlt)
      have h1 : wr.cell? ⟨b, o + j, none⟩ = some (.int .u32 (X j)) := (hb.cell hbl).trans (hp j hlt)
      have i1 : (0 : Int) ≤ (j : Int) := by omega
      have i2 : (j : Int) < (n : Int) := by omega
      have hk1 := hk (foldx f s X j) (X j) wr (foldx_lo hf hs hX j) (hX j)
      have HK : Hid (Calls Try.prog k #[.int .u32 (foldx f s X j), .int .u32 (X j)] wr fun e v' => e = .returned (.int .u32 (foldx f s X (j + 1))) ∧ Below wr.heap.size wr v') := hk1
      clear hp hk hk1
      go_wp2_with ((with_reducible refine HK.out.mono ?_); rintro e w1 ⟨rfl, hb1⟩)
      go_roundw
      case rel => exact ⟨bel hb hb1, j + 1, by omega, by go_num, rfl⟩
      case measure => simp [intOf]; omega
    · have : j = n := by omega
      subst this
      clear hp hk
      go_wp2
      go_ret
      exact ⟨rfl, hb⟩

set_option maxHeartbeats 1000000 in
theorem products_any (p q : Option Addr) (n c c' : Nat) (X Y : Nat → Int) (hX : ∀ i, IsP (X i)) (hY : ∀ i, IsP (Y i)) (hn : n ≤ 1048576) (w : World) (hp : Reads w p n (fun i => .int .u32 (X i))) (hq : Reads w q n (fun i => .int .u32 (Y i))) :
    Calls Try.prog 46 #[.slice p n c, .slice q n c'] w fun e w' => e = .returned (.int .u32 (fdot X Y n)) ∧ Below w.heap.size w w' := by
  go_enter Try.func46, Try.ntmps46
  go_wp2
  go_loopw [5, 10] (fun sv iv wr => Below w.heap.size w wr ∧ ∃ j : Nat, j ≤ n ∧ iv = .int .i64 j ∧ sv = .int .u32 (fdot X Y j)) (fun _ iv _ => n - (intOf iv).toNat)
  case atStart => exact ⟨bel0 w, 0, Nat.zero_le _, rfl, rfl⟩
  case round =>
    obtain ⟨hb, j, hj, rfl, rfl⟩ := hrel
    by_cases hlt : j < n
    · rcases hp with hp | ⟨b, o, rfl, hp⟩
      · omega
      rcases hq with hq | ⟨b', o', rfl, hq⟩
      · omega
      have hbl : b < w.heap.size := mcell_lt (hp j hlt)
      have hbl' : b' < w.heap.size := mcell_lt (hq j hlt)
      have h1 : wr.cell? ⟨b, o + j, none⟩ = some (.int .u32 (X j)) := (hb.cell hbl).trans (hp j hlt)
      have h2 : wr.cell? ⟨b', o' + j, none⟩ = some (.int .u32 (Y j)) := (hb.cell hbl').trans (hq j hlt)
      have i1 : (0 : Int) ≤ (j : Int) := by omega
      have i2 : (j : Int) < (n : Int) := by omega
      have x1 := hX j
      have y1 := hY j
      have d1 := isP_dot X Y j
      have m1 := isP_mul (X j) (Y j)
      clear hp hq hX hY
      go_wp2_with (first
        | (go_at_call 78; refine (mul_any _ x1.1 x1.2 _ y1.1 y1.2 _).mono ?_; rintro e w1 ⟨rfl, hb1⟩)
        | (go_at_call 50; refine (add_any _ d1.1 d1.2 _ m1.1 m1.2 _).mono ?_; rintro e w2 ⟨rfl, hb2⟩))
      go_roundw
      case rel => exact ⟨bel (bel hb hb1) hb2, j + 1, by omega, by go_num, rfl⟩
      case measure => simp [intOf]; omega
    · have : j = n := by omega
      subst this
      clear hp hq hX hY
      go_wp2
      go_ret
      exact ⟨rfl, hb⟩

set_option maxHeartbeats 400000 in
theorem sum_any (p : Option Addr) (n c : Nat) (X : Nat → Int) (hX : ∀ i, IsP (X i)) (hn : n ≤ 1048576) (w : World) (hp : Reads w p n (fun i => .int .u32 (X i))) :
    Calls Try.prog 19 #[.slice p n c] w fun e w' => e = .returned (.int .u32 (fsum X n)) ∧ Below w.heap.size w w' := by
  go_enter Try.func19, Try.ntmps19
  go_wp2_with (go_at_call 49; refine (gather_any 50 (enters_of Try.func50 (by kernel_rfl) rfl) fadd (fun _ _ _ _ => isP_add _ _) (fun a b v ha hb => add_any a ha.1 ha.2 b hb.1 hb.2 v) 0 isP_0 _ _ _ X hX hn _ hp).mono ?_; rintro e w1 ⟨rfl, hb1⟩)
  go_ret
  exact ⟨rfl, hb1⟩

set_option maxHeartbeats 400000 in
theorem least_any (p : Option Addr) (n c : Nat) (X : Nat → Int) (hX : ∀ i, IsP (X i)) (hn : n ≤ 1048576) (w : World) (hp : Reads w p n (fun i => .int .u32 (X i))) :
    Calls Try.prog 29 #[.slice p n c] w fun e w' => e = .returned (.int .u32 (fleast X n)) ∧ Below w.heap.size w w' := by
  go_enter Try.func29, Try.ntmps29
  go_wp2_with (go_at_call 49; refine (gather_any 62 (enters_of Try.func62 (by kernel_rfl) rfl) fmin isP_min (fun a b v ha hb => min_any a ha.1 ha.2 b hb.1 hb.2 v) 2139095040 (by unfold IsP; decide) _ _ _ X hX hn _ hp).mono ?_; rintro e w1 ⟨rfl, hb1⟩)
  go_ret
  exact ⟨rfl, hb1⟩

set_option maxHeartbeats 400000 in
theorem most_any (p : Option Addr) (n c : Nat) (X : Nat → Int) (hX : ∀ i, IsP (X i)) (hn : n ≤ 1048576) (w : World) (hp : Reads w p n (fun i => .int .u32 (X i))) :
    Calls Try.prog 31 #[.slice p n c] w fun e w' => e = .returned (.int .u32 (fmost X n)) ∧ Below w.heap.size w w' := by
  go_enter Try.func31, Try.ntmps31
  go_wp2_with (go_at_call 49; refine (gather_any 64 (enters_of Try.func64 (by kernel_rfl) rfl) fmax isP_max (fun a b v ha hb => max_any a ha.1 ha.2 b hb.1 hb.2 v) 4286578688 (by unfold IsP; decide) _ _ _ X hX hn _ hp).mono ?_; rintro e w1 ⟨rfl, hb1⟩)
  go_ret
  exact ⟨rfl, hb1⟩

set_option maxHeartbeats 400000 in
theorem squares_any (p : Option Addr) (n c : Nat) (X : Nat → Int) (hX : ∀ i, IsP (X i)) (hn : n ≤ 1048576) (w : World) (hp : Reads w p n (fun i => .int .u32 (X i))) :
    Calls Try.prog 21 #[.slice p n c] w fun e w' => e = .returned (.int .u32 (fdot X X n)) ∧ Below w.heap.size w w' := by
  go_enter Try.func21, Try.ntmps21
  go_wp2_with (go_at_call 46; refine (products_any _ _ _ _ _ X X hX hX hn _ hp hp).mono ?_; rintro e w1 ⟨rfl, hb1⟩)
  go_ret
  exact ⟨rfl, hb1⟩

set_option maxHeartbeats 400000 in
theorem dot_same (p q : Option Addr) (n c c' : Nat) (X Y : Nat → Int) (hX : ∀ i, IsP (X i)) (hY : ∀ i, IsP (Y i)) (hn : n ≤ 1048576) (w : World) (hp : Reads w p n (fun i => .int .u32 (X i))) (hq : Reads w q n (fun i => .int .u32 (Y i))) :
    Calls Try.prog 16 #[.slice p n c, .slice q n c'] w fun e w' => e = .returned (.tuple #[.int .u32 (fdot X Y n), .int .i64 0]) ∧ Below w.heap.size w w' := by
  go_enter Try.func16, Try.ntmps16
  go_wp2_with (go_at_call 46; refine (products_any _ _ _ _ _ X Y hX hY hn _ hp hq).mono ?_; rintro e w1 ⟨rfl, hb1⟩)
  go_returns
  exact ⟨rfl, hb1⟩

set_option maxHeartbeats 400000 in
theorem dot_other (p q : Option Addr) (n m c c' : Nat) (h : n ≠ m) (hn : n ≤ 1048576) (hm : m ≤ 1048576) (w : World) :
    Calls Try.prog 16 #[.slice p n c, .slice q m c'] w fun e w' => e = .returned (.tuple #[.int .u32 0, .int .i64 50]) ∧ w' = w := by
  have h1 : ¬ ((n : Int) = (m : Int)) := by omega
  go_enter Try.func16, Try.ntmps16
  go_wp2
  go_returns
  exact ⟨rfl, rfl⟩

set_option maxHeartbeats 400000 in
theorem mean_any (p : Option Addr) (n c : Nat) (X : Nat → Int) (hX : ∀ i, IsP (X i)) (hn : n ≤ 1048576) (w : World) (hp : Reads w p n (fun i => .int .u32 (X i))) :
    Calls Try.prog 23 #[.slice p n c] w fun e w' => e = .returned (.int .u32 (fmean X n)) ∧ Below w.heap.size w w' := by
  have s1 := isP_sum X n hX
  have s2 := ffrom_lo n
  go_enter Try.func23, Try.ntmps23
  go_wp2_with (first
    | (go_at_call 19; refine (sum_any _ _ _ X hX hn _ hp).mono ?_; rintro e w1 ⟨rfl, hb1⟩)
    | (go_at_call 52; refine (from_any _ (by omega) (by omega) _).mono ?_; rintro e w2 ⟨rfl, hw'⟩; obtain rfl := hw'.symm)
    | (go_at_call 51; refine (div_any _ s1.1 s1.2 _ s2.1 s2.2 _).mono ?_; rintro e w3 ⟨rfl, hb3⟩))
  go_ret
  exact ⟨rfl, bel hb1 hb3⟩

set_option maxRecDepth 100000 in
set_option maxHeartbeats 1000000 in
theorem elements_any (k : Nat) (hen : Ent k) (cap : Array Value) (n : Nat) (Y : Nat → Int) (hn : n ≤ 1048576) (w : World)
    (hk : ∀ (i : Nat) (v : World), i < n → Below w.heap.size w v → Calls Try.prog k (#[.int .i64 i] ++ cap) v fun e v' => e = .returned (.int .u32 (Y i)) ∧ Below v.heap.size v v') :
    Calls Try.prog 40 #[.int .i64 n, .func (.func k) #[] cap] w fun e w' => ∃ g, e = .returned (.slice (some ⟨g, 0, none⟩) n n) ∧ w.heap.size ≤ g ∧ w'.rowIs g 38 n (fun i => .int .u32 (Y i)) ∧ Below w.heap.size w w' := by
  have hmk := make_F n (by omega)
  unfold Ent at hen
  go_enter Try.func40, Try.ntmps40
  go_wp2
  go_loopw [11] (fun iv wr => Below w.heap.size w wr ∧ ∃ j : Nat, j ≤ n ∧ iv = .int .i64 j ∧ Hid (wr.rowIs w.heap.size 38 n (fun i => .int .u32 (if i < j then Y i else 0)))) (fun iv _ => n - (intOf iv).toNat)
  case atStart => exact ⟨by go_grown, 0, Nat.zero_le _, rfl, (World.rowIs_made w _ n _).congr fun i hi => by simp⟩
  case round =>
    obtain ⟨hb, j, hj, rfl, hrow⟩ := hrel
    clear hmk
    by_cases hlt : j < n
    · have HK := hk j wr hlt hb
      have HKH : Hid (Calls Try.prog k (#[.int .i64 j] ++ cap) wr fun e v' => e = .returned (.int .u32 (Y j)) ∧ Below wr.heap.size wr v') := HK
      have i1 : (0 : Int) ≤ (j : Int) := by omega
      have i2 : (j : Int) < (n : Int) := by omega
      clear hk HK
      go_wp2_with ((with_reducible refine HKH.out.mono ?_); (rintro e w1 ⟨rfl, hb1⟩; have r1 := row_below hrow.out hb1; have c1 := r1.cell (i := j) hlt; have f1 := r1.frozen j; have HR : Hid (w1.rowIs w.heap.size 38 n (fun i => .int .u32 (if i < j then Y i else 0))) := r1; clear r1))
      go_roundw
      case rel => exact ⟨(bel hb hb1).setCell (Nat.le_refl _) _, j + 1, by omega, by go_num, (HR.out.set j _).congr fun i hi => by by_cases e : i = j <;> by_cases e2 : i < j <;> simp [e, e2] <;> omega⟩
      case measure => simp [intOf]; omega
    · have : j = n := by omega
      subst this
      clear hk
      go_wp2
      go_ret
      exact ⟨_, rfl, Nat.le_refl _, hrow.out.congr fun i hi => by rw [if_pos hi], hb⟩

end Go.Proofs.Ytpidcmfmdgppbaa
