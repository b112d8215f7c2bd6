import Derived.Test.YtjbcafkpcgehdaaRefAdd3
import Derived.Test.YtjbcafkpcgehdaaRawOps
import Derived.Deep.RegionHeld3
import Derived.Handy
/- The walks of the reference of layer 4. -/
namespace Go.Proofs.Ytjbcafkpcgehdaa
open Go.RowKit
set_option linter.unusedVariables false

theorem cell_lt {w : World} {a : Addr} {v : Value} (h : w.cell? a = some v) : a.block < w.heap.size := by
  rcases Nat.lt_or_ge a.block w.heap.size with c | c
  · exact c
  · have : w.heap[a.block]? = none := Array.getElem?_eq_none c
    simp [World.cell?, this] at h
theorem keepc {w w' : World} (h : Below w.heap.size w w') {a : Addr} {v : Value} (hc : w.cell? a = some v) : w'.cell? a = some v := (h.cell (cell_lt hc)).trans hc
theorem keepf {w w' : World} (h : Below w.heap.size w w') {a : Addr} {v : Value} (hc : w.cell? a = some v) (hf : w.frozen? a = false) : w'.frozen? a = false := (h.frozen (cell_lt hc)).trans hf
theorem put2 {w : World} {b : Nat} {u v : Value} (h0 : w.cell? ⟨b, 0, none⟩ = some u) (h1 : w.cell? ⟨b, 1, none⟩ = some v) (x y : Value) :
    ((w.setCell ⟨b, 0, none⟩ x).setCell ⟨b, 1, none⟩ y).cell? ⟨b, 0, none⟩ = some x ∧ ((w.setCell ⟨b, 0, none⟩ x).setCell ⟨b, 1, none⟩ y).cell? ⟨b, 1, none⟩ = some y := by
  refine ⟨?_, World.cell?_setCell_same (u := v) _ _ _ ?_⟩
  · rw [World.cell?_setCell_other _ _ _ _ (by simp)]; exact World.cell?_setCell_same _ _ _ h0
  · rw [World.cell?_setCell_other _ _ _ _ (by simp)]; exact h1
theorem bel_put {w w' : World} (h : Below w.heap.size w w') {p : Addr} (hp : w.heap.size ≤ p.block) (u : Value) : Below w.heap.size w (w'.setCell p u) := h.setCell hp u

set_option maxHeartbeats 400000 in
theorem rcanon4_any (a : Int) (h0 : 0 ≤ a) (h1 : a < 4294967296) (w : World) :
    Calls Try.prog 48 #[.int .i64 a] w fun e w' => e = .returned (.int .i64 (canon a)) ∧ Below w.heap.size w w' := by
  have hf := field_nan
  unfold canon
  rw [← nNan_iff a h0 h1]
  cases hna : nNan a
  · rw [if_neg (by decide)]
    go_enter Try.func48, Try.ntmps48
    go_wp2_with (go_at_call 60; refine (rof_any _ (by omega) (by omega) _).mono ?_; rintro e w' ⟨rfl, o, rfl⟩)
    go_ret
    exact ⟨rfl, by go_grown⟩
  · rw [if_pos rfl]
    go_enter Try.func48, Try.ntmps48
    go_wp2_with (go_at_call 60; refine (rof_any _ (by omega) (by omega) _).mono ?_; rintro e w' ⟨rfl, o, rfl⟩)
    go_ret
    exact ⟨rfl, by go_grown⟩

set_option maxHeartbeats 400000 in
theorem sadd_any (a : Int) (a0 : 0 ≤ a) (a1 : a < 4294967296) (b : Int) (b0 : 0 ≤ b) (b1 : b < 4294967296) (w : World) :
    Calls Try.prog 35 #[.int .u32 a, .int .u32 b] w fun e w' => e = .returned (.int .u32 (fadd a b)) ∧ Below w.heap.size w w' := by
  have hl : 0 ≤ fadd a b ∧ fadd a b < 4294967296 := fadd_lo a b
  go_enter Try.func35, Try.ntmps35
  go_wp2_with (go_at_call 45; refine (radd_any _ (by omega) (by omega) _ (by omega) (by omega) _).mono ?_; rintro e w' ⟨rfl, hb⟩)
  go_ret
  exact ⟨rfl, hb⟩

set_option maxHeartbeats 400000 in
theorem ssub_any (a : Int) (a0 : 0 ≤ a) (a1 : a < 4294967296) (b : Int) (b0 : 0 ≤ b) (b1 : b < 4294967296) (w : World) :
    Calls Try.prog 36 #[.int .u32 a, .int .u32 b] w fun e w' => e = .returned (.int .u32 (fsub a b)) ∧ Below w.heap.size w w' := by
  have hl : 0 ≤ fsub a b ∧ fsub a b < 4294967296 := fsub_lo a b
  go_enter Try.func36, Try.ntmps36
  go_wp2_with (go_at_call 46; refine (rsub_any _ (by omega) (by omega) _ (by omega) (by omega) _).mono ?_; rintro e w' ⟨rfl, hb⟩)
  go_ret
  exact ⟨rfl, hb⟩

set_option maxHeartbeats 400000 in
theorem smul_any (a : Int) (a0 : 0 ≤ a) (a1 : a < 4294967296) (b : Int) (b0 : 0 ≤ b) (b1 : b < 4294967296) (w : World) :
    Calls Try.prog 40 #[.int .u32 a, .int .u32 b] w fun e w' => e = .returned (.int .u32 (fmul a b)) ∧ Below w.heap.size w w' := by
  have hl : 0 ≤ fmul a b ∧ fmul a b < 4294967296 := fmul_lo a b
  go_enter Try.func40, Try.ntmps40
  go_wp2_with (go_at_call 50; refine (rmul_any _ (by omega) (by omega) _ (by omega) (by omega) _).mono ?_; rintro e w' ⟨rfl, hb⟩)
  go_ret
  exact ⟨rfl, hb⟩

set_option maxHeartbeats 400000 in
theorem sneg_any (a : Int) (a0 : 0 ≤ a) (a1 : a < 4294967296) (w : World) :
    Calls Try.prog 37 #[.int .u32 a] w fun e w' => e = .returned (.int .u32 (fneg a)) ∧ Below w.heap.size w w' := by
  have hl : 0 ≤ fneg a ∧ fneg a < 4294967296 := fneg_lo a a0 a1
  go_enter Try.func37, Try.ntmps37
  go_wp2_with (go_at_call 47; refine (rneg_any _ (by omega) (by omega) _).mono ?_; rintro e w' ⟨rfl, hb⟩)
  go_ret
  exact ⟨rfl, hb⟩

set_option maxHeartbeats 400000 in
theorem scanon_any (a : Int) (a0 : 0 ≤ a) (a1 : a < 4294967296) (w : World) :
    Calls Try.prog 38 #[.int .u32 a] w fun e w' => e = .returned (.int .u32 (canon a)) ∧ Below w.heap.size w w' := by
  have hl : 0 ≤ canon a ∧ canon a < 4294967296 := canon_lo a a0 a1
  go_enter Try.func38, Try.ntmps38
  go_wp2_with (go_at_call 48; refine (rcanon4_any _ (by omega) (by omega) _).mono ?_; rintro e w' ⟨rfl, hb⟩)
  go_ret
  exact ⟨rfl, hb⟩

set_option maxHeartbeats 1000000 in
theorem sAdd_any (a : Int) (a0 : 0 ≤ a) (a1 : a < 4294967296) (b : Int) (b0 : 0 ≤ b) (b1 : b < 4294967296) (c : Int) (c0 : 0 ≤ c) (c1 : c < 4294967296) (d : Int) (d0 : 0 ≤ d) (d1 : d < 4294967296) (w : World) :
    Calls Try.prog 10 #[.agg #[.int .u32 a, .int .u32 b], .agg #[.int .u32 c, .int .u32 d]] w fun e w' => e = .returned (.agg #[.int .u32 (fadd a c), .int .u32 (fadd b d)]) ∧ Below w.heap.size w w' := by
  have ne1 : w.heap.size ≠ w.heap.size + 1 := by omega
  have en1 : w.heap.size + 1 ≠ w.heap.size := by omega
  have ne2 : w.heap.size ≠ w.heap.size + 1 + 1 := by omega
  have en2 : w.heap.size + 1 + 1 ≠ w.heap.size := by omega
  go_enter Try.func10, Try.ntmps10
  go_wp2
  go_region_held3 (fun w' => w'.cell? ⟨w.heap.size, 0, none⟩ = some (.int .u32 a) ∧ w'.cell? ⟨w.heap.size, 1, none⟩ = some (.int .u32 b) ∧ w'.cell? ⟨w.heap.size + 1, 0, none⟩ = some (.int .u32 c) ∧ w'.cell? ⟨w.heap.size + 1, 1, none⟩ = some (.int .u32 d)) (go_keep) (first
    | (go_at_call 35; refine (sadd_any _ (by first | assumption | exact (fmul_lo _ _).1) (by first | assumption | exact (fmul_lo _ _).2) _ (by first | assumption | exact (fmul_lo _ _).1) (by first | assumption | exact (fmul_lo _ _).2) _).mono ?_; rintro e w' ⟨rfl, hb⟩; have HB : Below w.heap.size w w' := (by first | exact bel HB hb | exact bel (by go_grown) hb); have := keepc hb (a := ⟨w.heap.size, 0, none⟩) (v := .int .u32 a) (by first | assumption | (simp [go_sem]; done)); have := keepc hb (a := ⟨w.heap.size, 1, none⟩) (v := .int .u32 b) (by first | assumption | (simp [go_sem]; done)); have := keepc hb (a := ⟨w.heap.size + 1, 0, none⟩) (v := .int .u32 c) (by first | assumption | (simp [go_sem]; done)); have := keepc hb (a := ⟨w.heap.size + 1, 1, none⟩) (v := .int .u32 d) (by first | assumption | (simp [go_sem]; done)); have := keepc hb (a := ⟨w.heap.size + 1 + 1, 0, none⟩) (v := .int .u32 0) (by first | assumption | (simp [go_sem]; done)); have := keepc hb (a := ⟨w.heap.size + 1 + 1, 1, none⟩) (v := .int .u32 0) (by first | assumption | (simp [go_sem]; done)); have := keepf hb (a := ⟨w.heap.size + 1 + 1, 0, none⟩) (v := .int .u32 0) (by first | assumption | (simp [go_sem]; done)) (by first | assumption | (simp [go_sem]; done)); have := keepf hb (a := ⟨w.heap.size + 1 + 1, 1, none⟩) (v := .int .u32 0) (by first | assumption | (simp [go_sem]; done)) (by first | assumption | (simp [go_sem]; done)); have := put2 (w := w') (b := w.heap.size + 1 + 1) (by assumption) (by assumption)))
  all_goals (go_wp2; (try simp only [Exit.inBlock, Exit.then]); refine bodyPost_ret (by simp [results, Try.results10, go_sem, *]; try rfl) rfl ?_; exact ⟨rfl, bel_put (bel_put HB (by dsimp only; omega) _) (by dsimp only; omega) _⟩)

set_option maxHeartbeats 1000000 in
theorem sSub_any (a : Int) (a0 : 0 ≤ a) (a1 : a < 4294967296) (b : Int) (b0 : 0 ≤ b) (b1 : b < 4294967296) (c : Int) (c0 : 0 ≤ c) (c1 : c < 4294967296) (d : Int) (d0 : 0 ≤ d) (d1 : d < 4294967296) (w : World) :
    Calls Try.prog 12 #[.agg #[.int .u32 a, .int .u32 b], .agg #[.int .u32 c, .int .u32 d]] w fun e w' => e = .returned (.agg #[.int .u32 (fsub a c), .int .u32 (fsub b d)]) ∧ Below w.heap.size w w' := by
  have ne1 : w.heap.size ≠ w.heap.size + 1 := by omega
  have en1 : w.heap.size + 1 ≠ w.heap.size := by omega
  have ne2 : w.heap.size ≠ w.heap.size + 1 + 1 := by omega
  have en2 : w.heap.size + 1 + 1 ≠ w.heap.size := by omega
  go_enter Try.func12, Try.ntmps12
  go_wp2
  go_region_held3 (fun w' => w'.cell? ⟨w.heap.size, 0, none⟩ = some (.int .u32 a) ∧ w'.cell? ⟨w.heap.size, 1, none⟩ = some (.int .u32 b) ∧ w'.cell? ⟨w.heap.size + 1, 0, none⟩ = some (.int .u32 c) ∧ w'.cell? ⟨w.heap.size + 1, 1, none⟩ = some (.int .u32 d)) (go_keep) (first
    | (go_at_call 36; refine (ssub_any _ (by first | assumption | exact (fmul_lo _ _).1) (by first | assumption | exact (fmul_lo _ _).2) _ (by first | assumption | exact (fmul_lo _ _).1) (by first | assumption | exact (fmul_lo _ _).2) _).mono ?_; rintro e w' ⟨rfl, hb⟩; have HB : Below w.heap.size w w' := (by first | exact bel HB hb | exact bel (by go_grown) hb); have := keepc hb (a := ⟨w.heap.size, 0, none⟩) (v := .int .u32 a) (by first | assumption | (simp [go_sem]; done)); have := keepc hb (a := ⟨w.heap.size, 1, none⟩) (v := .int .u32 b) (by first | assumption | (simp [go_sem]; done)); have := keepc hb (a := ⟨w.heap.size + 1, 0, none⟩) (v := .int .u32 c) (by first | assumption | (simp [go_sem]; done)); have := keepc hb (a := ⟨w.heap.size + 1, 1, none⟩) (v := .int .u32 d) (by first | assumption | (simp [go_sem]; done)); have := keepc hb (a := ⟨w.heap.size + 1 + 1, 0, none⟩) (v := .int .u32 0) (by first | assumption | (simp [go_sem]; done)); have := keepc hb (a := ⟨w.heap.size + 1 + 1, 1, none⟩) (v := .int .u32 0) (by first | assumption | (simp [go_sem]; done)); have := keepf hb (a := ⟨w.heap.size + 1 + 1, 0, none⟩) (v := .int .u32 0) (by first | assumption | (simp [go_sem]; done)) (by first | assumption | (simp [go_sem]; done)); have := keepf hb (a := ⟨w.heap.size + 1 + 1, 1, none⟩) (v := .int .u32 0) (by first | assumption | (simp [go_sem]; done)) (by first | assumption | (simp [go_sem]; done)); have := put2 (w := w') (b := w.heap.size + 1 + 1) (by assumption) (by assumption)))
  all_goals (go_wp2; (try simp only [Exit.inBlock, Exit.then]); refine bodyPost_ret (by simp [results, Try.results12, go_sem, *]; try rfl) rfl ?_; exact ⟨rfl, bel_put (bel_put HB (by dsimp only; omega) _) (by dsimp only; omega) _⟩)

set_option maxHeartbeats 1000000 in
theorem sNeg_any (a : Int) (a0 : 0 ≤ a) (a1 : a < 4294967296) (b : Int) (b0 : 0 ≤ b) (b1 : b < 4294967296) (w : World) :
    Calls Try.prog 14 #[.agg #[.int .u32 a, .int .u32 b]] w fun e w' => e = .returned (.agg #[.int .u32 (fneg a), .int .u32 (fneg b)]) ∧ Below w.heap.size w w' := by
  have ne1 : w.heap.size ≠ w.heap.size + 1 := by omega
  have en1 : w.heap.size + 1 ≠ w.heap.size := by omega
  have ne2 : w.heap.size ≠ w.heap.size + 1 + 1 := by omega
  have en2 : w.heap.size + 1 + 1 ≠ w.heap.size := by omega
  go_enter Try.func14, Try.ntmps14
  go_wp2
  go_region_held3 (fun w' => w'.cell? ⟨w.heap.size, 0, none⟩ = some (.int .u32 a) ∧ w'.cell? ⟨w.heap.size, 1, none⟩ = some (.int .u32 b)) (go_keep) (first
    | (go_at_call 37; refine (sneg_any _ (by first | assumption | exact (fmul_lo _ _).1) (by first | assumption | exact (fmul_lo _ _).2) _).mono ?_; rintro e w' ⟨rfl, hb⟩; have HB : Below w.heap.size w w' := (by first | exact bel HB hb | exact bel (by go_grown) hb); have := keepc hb (a := ⟨w.heap.size, 0, none⟩) (v := .int .u32 a) (by first | assumption | (simp [go_sem]; done)); have := keepc hb (a := ⟨w.heap.size, 1, none⟩) (v := .int .u32 b) (by first | assumption | (simp [go_sem]; done)); have := keepc hb (a := ⟨w.heap.size + 1, 0, none⟩) (v := .int .u32 0) (by first | assumption | (simp [go_sem]; done)); have := keepc hb (a := ⟨w.heap.size + 1, 1, none⟩) (v := .int .u32 0) (by first | assumption | (simp [go_sem]; done)); have := keepf hb (a := ⟨w.heap.size + 1, 0, none⟩) (v := .int .u32 0) (by first | assumption | (simp [go_sem]; done)) (by first | assumption | (simp [go_sem]; done)); have := keepf hb (a := ⟨w.heap.size + 1, 1, none⟩) (v := .int .u32 0) (by first | assumption | (simp [go_sem]; done)) (by first | assumption | (simp [go_sem]; done)); have := put2 (w := w') (b := w.heap.size + 1) (by assumption) (by assumption)))
  all_goals (go_wp2; (try simp only [Exit.inBlock, Exit.then]); refine bodyPost_ret (by simp [results, Try.results14, go_sem, *]; try rfl) rfl ?_; exact ⟨rfl, bel_put (bel_put HB (by dsimp only; omega) _) (by dsimp only; omega) _⟩)

set_option maxHeartbeats 1000000 in
theorem sConj_any (a : Int) (a0 : 0 ≤ a) (a1 : a < 4294967296) (b : Int) (b0 : 0 ≤ b) (b1 : b < 4294967296) (w : World) :
    Calls Try.prog 16 #[.agg #[.int .u32 a, .int .u32 b]] w fun e w' => e = .returned (.agg #[.int .u32 (canon a), .int .u32 (fneg b)]) ∧ Below w.heap.size w w' := by
  have ne1 : w.heap.size ≠ w.heap.size + 1 := by omega
  have en1 : w.heap.size + 1 ≠ w.heap.size := by omega
  have ne2 : w.heap.size ≠ w.heap.size + 1 + 1 := by omega
  have en2 : w.heap.size + 1 + 1 ≠ w.heap.size := by omega
  go_enter Try.func16, Try.ntmps16
  go_wp2
  go_region_held3 (fun w' => w'.cell? ⟨w.heap.size, 0, none⟩ = some (.int .u32 a) ∧ w'.cell? ⟨w.heap.size, 1, none⟩ = some (.int .u32 b)) (go_keep) (first
    | (go_at_call 38; refine (scanon_any _ (by first | assumption | exact (fmul_lo _ _).1) (by first | assumption | exact (fmul_lo _ _).2) _).mono ?_; rintro e w' ⟨rfl, hb⟩; have HB : Below w.heap.size w w' := (by first | exact bel HB hb | exact bel (by go_grown) hb); have := keepc hb (a := ⟨w.heap.size, 0, none⟩) (v := .int .u32 a) (by first | assumption | (simp [go_sem]; done)); have := keepc hb (a := ⟨w.heap.size, 1, none⟩) (v := .int .u32 b) (by first | assumption | (simp [go_sem]; done)); have := keepc hb (a := ⟨w.heap.size + 1, 0, none⟩) (v := .int .u32 0) (by first | assumption | (simp [go_sem]; done)); have := keepc hb (a := ⟨w.heap.size + 1, 1, none⟩) (v := .int .u32 0) (by first | assumption | (simp [go_sem]; done)); have := keepf hb (a := ⟨w.heap.size + 1, 0, none⟩) (v := .int .u32 0) (by first | assumption | (simp [go_sem]; done)) (by first | assumption | (simp [go_sem]; done)); have := keepf hb (a := ⟨w.heap.size + 1, 1, none⟩) (v := .int .u32 0) (by first | assumption | (simp [go_sem]; done)) (by first | assumption | (simp [go_sem]; done)); have := put2 (w := w') (b := w.heap.size + 1) (by assumption) (by assumption))
    | (go_at_call 37; refine (sneg_any _ (by first | assumption | exact (fmul_lo _ _).1) (by first | assumption | exact (fmul_lo _ _).2) _).mono ?_; rintro e w' ⟨rfl, hb⟩; have HB : Below w.heap.size w w' := (by first | exact bel HB hb | exact bel (by go_grown) hb); have := keepc hb (a := ⟨w.heap.size, 0, none⟩) (v := .int .u32 a) (by first | assumption | (simp [go_sem]; done)); have := keepc hb (a := ⟨w.heap.size, 1, none⟩) (v := .int .u32 b) (by first | assumption | (simp [go_sem]; done)); have := keepc hb (a := ⟨w.heap.size + 1, 0, none⟩) (v := .int .u32 0) (by first | assumption | (simp [go_sem]; done)); have := keepc hb (a := ⟨w.heap.size + 1, 1, none⟩) (v := .int .u32 0) (by first | assumption | (simp [go_sem]; done)); have := keepf hb (a := ⟨w.heap.size + 1, 0, none⟩) (v := .int .u32 0) (by first | assumption | (simp [go_sem]; done)) (by first | assumption | (simp [go_sem]; done)); have := keepf hb (a := ⟨w.heap.size + 1, 1, none⟩) (v := .int .u32 0) (by first | assumption | (simp [go_sem]; done)) (by first | assumption | (simp [go_sem]; done)); have := put2 (w := w') (b := w.heap.size + 1) (by assumption) (by assumption)))
  all_goals (go_wp2; (try simp only [Exit.inBlock, Exit.then]); refine bodyPost_ret (by simp [results, Try.results16, go_sem, *]; try rfl) rfl ?_; exact ⟨rfl, bel_put (bel_put HB (by dsimp only; omega) _) (by dsimp only; omega) _⟩)

set_option maxHeartbeats 1000000 in
theorem sScale_any (a : Int) (a0 : 0 ≤ a) (a1 : a < 4294967296) (b : Int) (b0 : 0 ≤ b) (b1 : b < 4294967296) (f : Int) (f0 : 0 ≤ f) (f1 : f < 4294967296) (w : World) :
    Calls Try.prog 18 #[.agg #[.int .u32 a, .int .u32 b], .int .u32 f] w fun e w' => e = .returned (.agg #[.int .u32 (fmul a f), .int .u32 (fmul b f)]) ∧ Below w.heap.size w w' := by
  have ne1 : w.heap.size ≠ w.heap.size + 1 := by omega
  have en1 : w.heap.size + 1 ≠ w.heap.size := by omega
  have ne2 : w.heap.size ≠ w.heap.size + 1 + 1 := by omega
  have en2 : w.heap.size + 1 + 1 ≠ w.heap.size := by omega
  go_enter Try.func18, Try.ntmps18
  go_wp2
  go_region_held3 (fun w' => w'.cell? ⟨w.heap.size, 0, none⟩ = some (.int .u32 a) ∧ w'.cell? ⟨w.heap.size, 1, none⟩ = some (.int .u32 b)) (go_keep) (first
    | (go_at_call 40; refine (smul_any _ (by first | assumption | exact (fmul_lo _ _).1) (by first | assumption | exact (fmul_lo _ _).2) _ (by first | assumption | exact (fmul_lo _ _).1) (by first | assumption | exact (fmul_lo _ _).2) _).mono ?_; rintro e w' ⟨rfl, hb⟩; have HB : Below w.heap.size w w' := (by first | exact bel HB hb | exact bel (by go_grown) hb); have := keepc hb (a := ⟨w.heap.size, 0, none⟩) (v := .int .u32 a) (by first | assumption | (simp [go_sem]; done)); have := keepc hb (a := ⟨w.heap.size, 1, none⟩) (v := .int .u32 b) (by first | assumption | (simp [go_sem]; done)); have := keepc hb (a := ⟨w.heap.size + 1, 0, none⟩) (v := .int .u32 0) (by first | assumption | (simp [go_sem]; done)); have := keepc hb (a := ⟨w.heap.size + 1, 1, none⟩) (v := .int .u32 0) (by first | assumption | (simp [go_sem]; done)); have := keepf hb (a := ⟨w.heap.size + 1, 0, none⟩) (v := .int .u32 0) (by first | assumption | (simp [go_sem]; done)) (by first | assumption | (simp [go_sem]; done)); have := keepf hb (a := ⟨w.heap.size + 1, 1, none⟩) (v := .int .u32 0) (by first | assumption | (simp [go_sem]; done)) (by first | assumption | (simp [go_sem]; done)); have := put2 (w := w') (b := w.heap.size + 1) (by assumption) (by assumption)))
  all_goals (go_wp2; (try simp only [Exit.inBlock, Exit.then]); refine bodyPost_ret (by simp [results, Try.results18, go_sem, *]; try rfl) rfl ?_; exact ⟨rfl, bel_put (bel_put HB (by dsimp only; omega) _) (by dsimp only; omega) _⟩)

end Go.Proofs.Ytjbcafkpcgehdaa
