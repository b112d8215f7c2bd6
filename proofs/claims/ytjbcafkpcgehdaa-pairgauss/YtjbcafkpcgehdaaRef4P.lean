import Derived.Test.YtjbcafkpcgehdaaPairPow
import Derived.Test.YtjbcafkpcgehdaaRef4M
import Derived.Deep.DeepCutAuto
/- Powers of the reference of layer 4. -/
namespace Go.Proofs.Ytjbcafkpcgehdaa
open Go.RowKit
set_option linter.unusedVariables false

/-- What lies in memory while the powers are reckoned: the argument, the result, the number so far (block g). -/
structure PS (w : World) (g : Nat) (a b : Int) (x y : Int) (v : World) : Prop where
  bel : Below w.heap.size w v
  z0 : v.cell? ⟨w.heap.size, 0, none⟩ = some (.int .u32 a)
  z1 : v.cell? ⟨w.heap.size, 1, none⟩ = some (.int .u32 b)
  r0 : v.cell? ⟨w.heap.size + 1, 0, none⟩ = some (.int .u32 0)
  r1 : v.cell? ⟨w.heap.size + 1, 1, none⟩ = some (.int .u32 0)
  f0 : v.frozen? ⟨w.heap.size + 1, 0, none⟩ = false
  f1 : v.frozen? ⟨w.heap.size + 1, 1, none⟩ = false
  g0 : v.cell? ⟨g, 0, none⟩ = some (.int .u32 x)
  g1 : v.cell? ⟨g, 1, none⟩ = some (.int .u32 y)
  e0 : v.frozen? ⟨g, 0, none⟩ = false
  e1 : v.frozen? ⟨g, 1, none⟩ = false

structure PS0 (w : World) (a b : Int) (v : World) : Prop where
  bel : Below w.heap.size w v
  size : w.heap.size + 1 < v.heap.size
  z0 : v.cell? ⟨w.heap.size, 0, none⟩ = some (.int .u32 a)
  z1 : v.cell? ⟨w.heap.size, 1, none⟩ = some (.int .u32 b)
  r0 : v.cell? ⟨w.heap.size + 1, 0, none⟩ = some (.int .u32 0)
  r1 : v.cell? ⟨w.heap.size + 1, 1, none⟩ = some (.int .u32 0)
  f0 : v.frozen? ⟨w.heap.size + 1, 0, none⟩ = false
  f1 : v.frozen? ⟨w.heap.size + 1, 1, none⟩ = false
theorem PS0.below {w : World} {a b : Int} {v v' : World} (h : PS0 w a b v) (k : Below v.heap.size v v') : PS0 w a b v' :=
  ⟨Go.Proofs.Ytjbcafkpcgehdaa.bel h.bel k, Nat.lt_of_lt_of_le h.size k.size, keepc k h.z0, keepc k h.z1, keepc k h.r0, keepc k h.r1, keepf k h.r0 h.f0, keepf k h.r1 h.f1⟩
theorem bel_alloc (w : World) (o : Obj) : Below w.heap.size w (w.alloc o) := (Below.refl _ _).alloc (Nat.le_refl _) o
theorem PS0.alloc {w : World} {a b : Int} {v : World} (h : PS0 w a b v) (o : Obj) : PS0 w a b (v.alloc o) := h.below (bel_alloc v o)
theorem PS0.drew {w : World} {a b : Int} {v : World} (h : PS0 w a b v) : PS0 w a b v.drew := h.below (belD v)
theorem ps0_base (w : World) (a b : Int) (t : TypeId) : PS0 w a b ((w.alloc (.cells #[.int .u32 a, .int .u32 b] t)).alloc (.cells #[.int .u32 0, .int .u32 0] t)) :=
  ⟨by go_grown, by simp, by simp [go_sem], by simp [go_sem], by simp [go_sem], by simp [go_sem], by simp [go_sem], by simp [go_sem]⟩
theorem PS.ofAlloc {w : World} {a b : Int} {v : World} (h : PS0 w a b v) (x y : Int) (t : TypeId) : PS w v.heap.size a b x y (v.alloc (.cells #[.int .u32 x, .int .u32 y] t)) := by
  have k := h.alloc (.cells #[.int .u32 x, .int .u32 y] t)
  exact ⟨k.bel, k.z0, k.z1, k.r0, k.r1, k.f0, k.f1, by simp [go_sem], by simp [go_sem], by simp [go_sem], by simp [go_sem]⟩

theorem PS.below {w : World} {g : Nat} {a b x y : Int} {v v' : World} (h : PS w g a b x y v) (k : Below v.heap.size v v') : PS w g a b x y v' :=
  ⟨Go.Proofs.Ytjbcafkpcgehdaa.bel h.bel k, keepc k h.z0, keepc k h.z1, keepc k h.r0, keepc k h.r1, keepf k h.r0 h.f0, keepf k h.r1 h.f1, keepc k h.g0, keepc k h.g1, keepf k h.g0 h.e0, keepf k h.g1 h.e1⟩
theorem PS.drew {w : World} {g : Nat} {a b x y : Int} {v : World} (h : PS w g a b x y v) : PS w g a b x y v.drew := h.below (belD v)
theorem ps_base (w : World) (a b : Int) (t : TypeId) : PS w (w.heap.size + 1 + 1) a b 0 0 (((w.alloc (.cells #[.int .u32 a, .int .u32 b] t)).alloc (.cells #[.int .u32 0, .int .u32 0] t)).alloc (.cells #[.int .u32 0, .int .u32 0] t)) := by
  have := PS.ofAlloc (ps0_base w a b t) 0 0 t
  simpa using this
theorem put_far {w : World} {g b : Nat} (h : b ≠ g) (x y : Value) (i : Nat) : ((w.setCell ⟨g, 0, none⟩ x).setCell ⟨g, 1, none⟩ y).cell? ⟨b, i, none⟩ = w.cell? ⟨b, i, none⟩ := by
  rw [World.cell?_setCell_far _ _ _ _ (by simpa using fun e => h e.symm), World.cell?_setCell_far _ _ _ _ (by simpa using fun e => h e.symm)]
theorem PS.put {w : World} {g : Nat} {a b x y : Int} {v : World} (h : PS w g a b x y v) (hg : w.heap.size + 1 < g) (x' y' : Int) : PS w g a b x' y' ((v.setCell ⟨g, 0, none⟩ (.int .u32 x')).setCell ⟨g, 1, none⟩ (.int .u32 y')) := by
  have p := put2 h.g0 h.g1 (.int .u32 x') (.int .u32 y')
  refine ⟨bel_put (bel_put h.bel (by dsimp only; omega) _) (by dsimp only; omega) _, ?_, ?_, ?_, ?_, ?_, ?_, p.1, p.2, ?_, ?_⟩
  · rw [put_far (by omega)]; exact h.z0
  · rw [put_far (by omega)]; exact h.z1
  · rw [put_far (by omega)]; exact h.r0
  · rw [put_far (by omega)]; exact h.r1
  · simpa using h.f0
  · simpa using h.f1
  · simpa using h.e0
  · simpa using h.e1

theorem blen_at (n : Int) (t : Nat) (h1 : 1 ≤ n) (h2 : (2 : Int) ^ t ≤ n) (h3 : n / 2 ^ t ≤ 1) : blen n.toNat - 1 = t := by
  have e : ((n.toNat : Nat) : Int) = n := Int.toNat_of_nonneg (by omega)
  have k2 : 2 ^ t ≤ n.toNat := by have : ((2 ^ t : Nat) : Int) ≤ (n.toNat : Int) := by rw [Int.natCast_pow, e]; exact h2
                                  exact Int.ofNat_le.1 this
  have k3 : n.toNat < 2 ^ (t + 1) := by
    have h4 : n < 2 ^ t * 2 := by
      have := Int.lt_mul_ediv_self_add (x := n) (k := 2 ^ t) (Int.pow_pos (by decide))
      have h5 : (2 : Int) ^ t * (n / 2 ^ t) ≤ 2 ^ t * 1 := Int.mul_le_mul_of_nonneg_left h3 (Int.le_of_lt (Int.pow_pos (by decide)))
      omega
    have : (n.toNat : Int) < ((2 ^ (t + 1) : Nat) : Int) := by rw [Int.natCast_pow, e, Int.pow_succ]; exact h4
    exact Int.ofNat_lt.1 this
  have hne : n.toNat ≠ 0 := by omega
  unfold blen; rw [if_neg hne]
  have : n.toNat.log2 = t := by
    have a1 : t ≤ n.toNat.log2 := (Nat.le_log2 hne).2 k2
    have a2 : n.toNat.log2 < t + 1 := (Nat.log2_lt hne).2 k3
    omega
  omega
theorem pow_lt63 (n : Int) (t : Nat) (h1 : n ≤ 9223372036854775807) (h2 : (2 : Int) ^ t ≤ n) : t ≤ 62 := by
  rcases Nat.lt_or_ge 62 t with c | c
  · have k0 : ((2 ^ 63 : Nat) : Int) ≤ ((2 ^ t : Nat) : Int) := Int.ofNat_le.2 (Nat.pow_le_pow_right (by decide) c)
    have k1 : (2 : Int) ^ 63 ≤ 2 ^ t := by rw [Int.natCast_pow, Int.natCast_pow] at k0; exact k0
    have k2 : (2 : Int) ^ 63 = 9223372036854775808 := by decide
    omega
  · exact c
theorem pow_up (n : Int) (t : Nat) (h : 1 < n / 2 ^ t) : (2 : Int) ^ (t + 1) ≤ n := by
  have := Int.mul_ediv_self_le (x := n) (k := 2 ^ t) (Int.ne_of_gt (Int.pow_pos (by decide)))
  have h5 : (2 : Int) ^ t * 2 ≤ 2 ^ t * (n / 2 ^ t) := Int.mul_le_mul_of_nonneg_left (by omega) (Int.le_of_lt (Int.pow_pos (by decide)))
  rw [Int.pow_succ]; omega

set_option maxHeartbeats 2000000 in
theorem sPow_any (a : Int) (a0 : 0 ≤ a) (a1 : a < 4294967296) (b : Int) (b0 : 0 ≤ b) (b1 : b < 4294967296) (n : Int) (n0 : -9223372036854775808 ≤ n) (n1 : n ≤ 9223372036854775807) (w : World) :
    Calls Try.prog 25 #[.agg #[.int .u32 a, .int .u32 b], .int .i64 n] w fun e w' => e = .returned (.agg #[.int .u32 (cpow (a, b) n).1, .int .u32 (cpow (a, b) n).2]) ∧ Below w.heap.size w w' := by
  unfold cpow
  by_cases c : n < 1
  · rw [if_pos c]
    go_enter Try.func25, Try.ntmps25
    go_wp2
    go_returns
    exact ⟨rfl, by go_grown⟩
  · rw [if_neg c]
    generalize hP : cpw (a, b) n (blen n.toNat - 1) (ccan (a, b)) = P at *
    have HP : Hid (cpw (a, b) n (blen n.toNat - 1) (ccan (a, b)) = P) := hP
    have ca : 0 ≤ canon a ∧ canon a < 4294967296 := canon_lo a a0 a1
    have cb : 0 ≤ canon b ∧ canon b < 4294967296 := canon_lo b b0 b1
    obtain ⟨ca0, ca1⟩ := ca
    obtain ⟨cb0, cb1⟩ := cb
    clear hP
    go_enter Try.func25, Try.ntmps25
    go_wp2
    go_loopw [5] (fun tv wr => wr = (w.alloc (.cells #[.int .u32 a, .int .u32 b] 25)).alloc (.cells #[.int .u32 0, .int .u32 0] 25) ∧ ∃ t : Nat, t ≤ 62 ∧ tv = .int .i64 t ∧ Hid ((2 : Int) ^ t ≤ n)) (fun tv _ => 63 - (intOf tv).toNat)
    case atStart => exact ⟨rfl, 0, by omega, rfl, by show (2 : Int) ^ 0 ≤ n; rw [Int.pow_zero]; omega⟩
    case round =>
      obtain ⟨rfl, t, ht, rfl, ht2⟩ := hrel
      by_cases hc : 1 < n / 2 ^ t
      · go_wp2
        go_roundw
        case rel => exact ⟨by first | trivial | rfl, t + 1, pow_lt63 n (t + 1) n1 (pow_up n t hc), by go_num, pow_up n t hc⟩
        case measure => have := pow_lt63 n (t + 1) n1 (pow_up n t hc); simp [intOf]; omega
      · have hT : blen n.toNat - 1 = t := blen_at n t (by omega) ht2.out (by omega)
        have HQ : Hid (cpw (a, b) n t (ccan (a, b)) = P) := by rw [← hT]; exact HP.out
        clear hT HP ht2
        have nB : w.heap.size + 1 + 1 ≠ w.heap.size := by omega
        go_wp2
        go_cut [6] (fun rv wx => ∃ g, rv = .pointer (some ⟨g, 0, none⟩) ∧ w.heap.size + 1 < g ∧ PS w g a b (canon a) (canon b) wx)
        case first =>
          go_region_held3 (fun w' => w'.cell? ⟨w.heap.size, 0, none⟩ = some (.int .u32 a) ∧ w'.cell? ⟨w.heap.size, 1, none⟩ = some (.int .u32 b)) (go_keep) (first
            | (go_at_call_of 38 (Value.int IntKind.u32 a); refine (scanon_any _ (by assumption) (by assumption) _).mono ?_; rintro e w1 ⟨rfl, hb1⟩; have hA := PS0.below (by first | exact (ps0_base w a b _).drew | exact ((ps0_base w a b _).alloc _).drew) hb1; (try have hA' := PS.below (ps_base w a b _).drew hb1); have := hA.z0; have := hA.z1; have nA : w1.heap.size ≠ w.heap.size := (by have := hA.size; omega))
            | (go_at_call_of 38 (Value.int IntKind.u32 b); refine (scanon_any _ (by assumption) (by assumption) _).mono ?_; rintro e w2 ⟨rfl, hb2⟩; have hB := PS0.below (by first | exact hA | exact hA.alloc _) hb2; (try have hB1 := PS.below hA' hb2); (try have hB2 := PS.below (PS.ofAlloc hA 0 0 _) hb2); have := hB.z0; have := hB.z1; (try have := hB1.g0); (try have := hB1.g1); (try have := hB1.e0); (try have := hB1.e1); (try have := hB2.g0); (try have := hB2.g1); (try have := hB2.e0); (try have := hB2.e1)))
          all_goals (go_wp2; go_meet)
          all_goals first
            | exact ⟨_, rfl, hB.size, PS.ofAlloc hB _ _ _⟩
            | exact ⟨_, rfl, hA.size, PS.put hB2 hA.size _ _⟩
            | exact ⟨_, rfl, by omega, PS.put hB1 (by omega) _ _⟩
        case rest =>
          obtain ⟨g, rfl, hg, hp⟩ := hcut
          go_wp2
          go_loopw [7] (fun iv wr => ∃ (j : Nat) (x y : Int), j ≤ 62 ∧ iv = .int .i64 ((j : Int) - 1) ∧ 0 ≤ x ∧ x < 4294967296 ∧ 0 ≤ y ∧ y < 4294967296 ∧ PS w g a b x y wr ∧ Hid (cpw (a, b) n j (x, y) = P)) (fun iv _ => (intOf iv + 1).toNat)
          case atStart => exact ⟨t, canon a, canon b, ht, rfl, ca0, ca1, cb0, cb1, hp, HQ⟩
          case round =>
            clear hp HQ
            obtain ⟨j, x, y, hj, rfl, x0, x1, y0, y1, hp, HR⟩ := hrel
            have z0 := hp.z0; have z1 := hp.z1; have r0 := hp.r0; have r1 := hp.r1; have f0 := hp.f0; have f1 := hp.f1; have g0 := hp.g0; have g1 := hp.g1; have e0 := hp.e0; have e1 := hp.e1
            rcases Nat.eq_zero_or_pos j with hz | hz
            · subst hz
              have hPr : (x, y) = P := HR.out
              subst hPr
              have hq := put2 hp.r0 hp.r1
              go_wp2
              (try simp only [Exit.inBlock, Exit.then])
              refine bodyPost_ret (by simp [results, Try.results25, go_sem, *]; try rfl) rfl ?_
              exact ⟨rfl, bel_put (bel_put hp.bel (by dsimp only; omega) _) (by dsimp only; omega) _⟩
            · obtain ⟨i, rfl⟩ : ∃ i, j = i + 1 := ⟨j - 1, by omega⟩
              rw [show ((i + 1 : Nat) : Int) - 1 = (i : Int) by omega]
              have hbit := cand64 n (by omega) n1 i
              by_cases cbit : n / 2 ^ i % 2 = 1
              · go_wp2_with (go_at_call 21; refine (sMul_any _ (by first | assumption | exact (fsub_lo _ _).1 | exact (fadd_lo _ _).1) (by first | assumption | exact (fsub_lo _ _).2 | exact (fadd_lo _ _).2) _ (by first | assumption | exact (fsub_lo _ _).1 | exact (fadd_lo _ _).1) (by first | assumption | exact (fsub_lo _ _).2 | exact (fadd_lo _ _).2) _ (by first | assumption | exact (fsub_lo _ _).1 | exact (fadd_lo _ _).1) (by first | assumption | exact (fsub_lo _ _).2 | exact (fadd_lo _ _).2) _ (by first | assumption | exact (fsub_lo _ _).1 | exact (fadd_lo _ _).1) (by first | assumption | exact (fsub_lo _ _).2 | exact (fadd_lo _ _).2) _).mono ?_; rintro e w' ⟨rfl, hb⟩; have hp := PS.below (by first | exact hp | exact hq _ _) hb; have z0 := hp.z0; have z1 := hp.z1; have r0 := hp.r0; have r1 := hp.r1; have f0 := hp.f0; have f1 := hp.f1; have g0 := hp.g0; have g1 := hp.g1; have e0 := hp.e0; have e1 := hp.e1; have hq := fun x y => PS.put hp hg x y; have qz0 := fun x y => (hq x y).z0; have qz1 := fun x y => (hq x y).z1; have qr0 := fun x y => (hq x y).r0; have qr1 := fun x y => (hq x y).r1; have qf0 := fun x y => (hq x y).f0; have qf1 := fun x y => (hq x y).f1; have qg0 := fun x y => (hq x y).g0; have qg1 := fun x y => (hq x y).g1; have qe0 := fun x y => (hq x y).e0; have qe1 := fun x y => (hq x y).e1)
                go_roundw
                case rel => exact ⟨i, _, _, by omega, rfl, (fsub_lo _ _).1, (fsub_lo _ _).2, (fadd_lo _ _).1, (fadd_lo _ _).2, hq _ _, by have := HR.out; rw [cpw, if_pos cbit] at this; exact this⟩
                case measure => first | (simp [intOf]; done) | (simp [intOf]; omega)
              · go_wp2_with (go_at_call 21; refine (sMul_any _ (by first | assumption | exact (fsub_lo _ _).1 | exact (fadd_lo _ _).1) (by first | assumption | exact (fsub_lo _ _).2 | exact (fadd_lo _ _).2) _ (by first | assumption | exact (fsub_lo _ _).1 | exact (fadd_lo _ _).1) (by first | assumption | exact (fsub_lo _ _).2 | exact (fadd_lo _ _).2) _ (by first | assumption | exact (fsub_lo _ _).1 | exact (fadd_lo _ _).1) (by first | assumption | exact (fsub_lo _ _).2 | exact (fadd_lo _ _).2) _ (by first | assumption | exact (fsub_lo _ _).1 | exact (fadd_lo _ _).1) (by first | assumption | exact (fsub_lo _ _).2 | exact (fadd_lo _ _).2) _).mono ?_; rintro e w' ⟨rfl, hb⟩; have hp := PS.below (by first | exact hp | exact hq _ _) hb; have z0 := hp.z0; have z1 := hp.z1; have r0 := hp.r0; have r1 := hp.r1; have f0 := hp.f0; have f1 := hp.f1; have g0 := hp.g0; have g1 := hp.g1; have e0 := hp.e0; have e1 := hp.e1; have hq := fun x y => PS.put hp hg x y; have qz0 := fun x y => (hq x y).z0; have qz1 := fun x y => (hq x y).z1; have qr0 := fun x y => (hq x y).r0; have qr1 := fun x y => (hq x y).r1; have qf0 := fun x y => (hq x y).f0; have qf1 := fun x y => (hq x y).f1; have qg0 := fun x y => (hq x y).g0; have qg1 := fun x y => (hq x y).g1; have qe0 := fun x y => (hq x y).e0; have qe1 := fun x y => (hq x y).e1)
                go_roundw
                case rel => exact ⟨i, _, _, by omega, rfl, (fsub_lo _ _).1, (fsub_lo _ _).2, (fadd_lo _ _).1, (fadd_lo _ _).2, hq _ _, by have := HR.out; rw [cpw, if_neg cbit] at this; exact this⟩
                case measure => first | (simp [intOf]; done) | (simp [intOf]; omega)

end Go.Proofs.Ytjbcafkpcgehdaa
