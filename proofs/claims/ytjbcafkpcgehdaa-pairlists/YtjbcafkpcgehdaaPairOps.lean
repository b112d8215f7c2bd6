import Derived.Test.YtjbcafkpcgehdaaPairWalks
/- The walks of package pair: its operations. -/
namespace Go.Proofs.Ytjbcafkpcgehdaa
open Go.RowKit
set_option linter.unusedVariables false

theorem neg_raw (x : Nat) (h : x < 4294967296) : canon (Op.negFloat .f32 x : Nat) = fneg x ∧ Op.negFloat .f32 x < 4294967296 := by
  have e : Op.negFloat .f32 x = flip x := by
    show x ^^^ 2 ^ 31 = flip x
    unfold flip
    by_cases c : 2147483648 ≤ x
    · rw [if_pos c]
      have e := nat_xor_low (x - 2 ^ 31) (by omega)
      have e2 : 2 ^ 31 + (x - 2 ^ 31) = x := by omega
      rw [e2] at e
      rw [← e, Nat.xor_assoc, Nat.xor_self, Nat.xor_zero]; omega
    · rw [if_neg c, nat_xor_low _ (by omega)]; omega
  rw [e]
  refine ⟨?_, by unfold flip; split <;> omega⟩
  unfold fneg flip
  congr 1
  split <;> split <;> omega

theorem mul_raw (a b c d : Nat) (w1 w2 w3 : World) : canon (rsub w3 (rmul w1 a c) (rmul w2 b d)) = fsub (fmul a c) (fmul b d) := by
  rw [rsub_canon, ← rmul_canon w1, ← rmul_canon w2, fsub_canl _ _ (Int.natCast_nonneg _), fsub_canr _ _ (Int.natCast_nonneg _)]
theorem mul_raw' (a b c d : Nat) (w1 w2 w3 : World) : canon (radd w3 (rmul w1 a d) (rmul w2 b c)) = fadd (fmul a d) (fmul b c) := by
  rw [radd_canon, ← rmul_canon w1, ← rmul_canon w2, fadd_canl _ _ (Int.natCast_nonneg _), fadd_canr _ _ (Int.natCast_nonneg _)]

set_option maxHeartbeats 400000 in
theorem ptimes_any (a b c d : Nat) (w : World) :
    Calls Try.prog 41 #[.complex .f32 a b, .complex .f32 c d] w fun e w' => (∃ x y : Nat, e = .returned (.complex .f32 x y) ∧ x < 4294967296 ∧ y < 4294967296 ∧
      canon x = fsub (fmul a c) (fmul b d) ∧ canon y = fadd (fmul a d) (fmul b c)) ∧ ∃ n, w' = w.drewN n := by
  have h1 := fun t x y w => run_fadd (P := Try.prog) w t x y
  have h2 := fun t x y w => run_fsub (P := Try.prog) w t x y
  have h3 := fun t x y w => run_fmul (P := Try.prog) w t x y
  go_enter Try.func41, Try.ntmps41
  go_wp2
  go_ret
  exact ⟨⟨_, _, rfl, rsub_lt _ _ _, radd_lt _ _ _, mul_raw _ _ _ _ _ _ _, mul_raw' _ _ _ _ _ _ _⟩, _, rfl⟩

set_option maxHeartbeats 400000 in
theorem padd_any (a : Int) (a0 : 0 ≤ a) (a1 : a < 4294967296) (b : Int) (b0 : 0 ≤ b) (b1 : b < 4294967296) (c : Int) (c0 : 0 ≤ c) (c1 : c < 4294967296) (d : Int) (d0 : 0 ≤ d) (d1 : d < 4294967296) (w : World) :
    Calls Try.prog 9 #[.agg #[.int .u32 a, .int .u32 b], .agg #[.int .u32 c, .int .u32 d]] w fun e w' => e = .returned (.agg #[.int .u32 (fadd a c), .int .u32 (fadd b d)]) ∧ Below w.heap.size w w' := by
  have h1 := fun t x y x' y' w => run_cadd (P := Try.prog) w t x y x' y'
  have e1 : ∀ w, canon (radd w a.toNat c.toNat) = fadd a c := fun w => by rw [radd_canon, Int.toNat_of_nonneg a0, Int.toNat_of_nonneg c0]
  have e2 : ∀ w, canon (radd w b.toNat d.toNat) = fadd b d := fun w => by rw [radd_canon, Int.toNat_of_nonneg b0, Int.toNat_of_nonneg d0]
  go_enter Try.func9, Try.ntmps9
  go_wp2
  go_region_with (first
    | (go_at_call 34; refine (pvalue_any _ (by assumption) (by assumption) _ (by assumption) (by assumption) _).mono ?_; rintro e w' ⟨rfl, o, n, rfl⟩)
    | (go_at_call 33; refine (pparts_any _ _ (radd_lt _ _ _) (radd_lt _ _ _) _).mono ?_; rintro e w' ⟨rfl, o, rfl⟩))
  all_goals (go_wp2; go_returns; exact ⟨rfl, by first | (refine below_dn _ _ ?_; go_grown; done) | (go_grown; done)⟩)

set_option maxHeartbeats 400000 in
theorem psub_any (a : Int) (a0 : 0 ≤ a) (a1 : a < 4294967296) (b : Int) (b0 : 0 ≤ b) (b1 : b < 4294967296) (c : Int) (c0 : 0 ≤ c) (c1 : c < 4294967296) (d : Int) (d0 : 0 ≤ d) (d1 : d < 4294967296) (w : World) :
    Calls Try.prog 11 #[.agg #[.int .u32 a, .int .u32 b], .agg #[.int .u32 c, .int .u32 d]] w fun e w' => e = .returned (.agg #[.int .u32 (fsub a c), .int .u32 (fsub b d)]) ∧ Below w.heap.size w w' := by
  have h1 := fun t x y x' y' w => run_csub (P := Try.prog) w t x y x' y'
  have e1 : ∀ w, canon (rsub w a.toNat c.toNat) = fsub a c := fun w => by rw [rsub_canon, Int.toNat_of_nonneg a0, Int.toNat_of_nonneg c0]
  have e2 : ∀ w, canon (rsub w b.toNat d.toNat) = fsub b d := fun w => by rw [rsub_canon, Int.toNat_of_nonneg b0, Int.toNat_of_nonneg d0]
  go_enter Try.func11, Try.ntmps11
  go_wp2
  go_region_with (first
    | (go_at_call 34; refine (pvalue_any _ (by assumption) (by assumption) _ (by assumption) (by assumption) _).mono ?_; rintro e w' ⟨rfl, o, n, rfl⟩)
    | (go_at_call 33; refine (pparts_any _ _ (rsub_lt _ _ _) (rsub_lt _ _ _) _).mono ?_; rintro e w' ⟨rfl, o, rfl⟩))
  all_goals (go_wp2; go_returns; exact ⟨rfl, by first | (refine below_dn _ _ ?_; go_grown; done) | (go_grown; done)⟩)

set_option maxHeartbeats 400000 in
theorem pneg_any (a : Int) (a0 : 0 ≤ a) (a1 : a < 4294967296) (b : Int) (b0 : 0 ≤ b) (b1 : b < 4294967296) (w : World) :
    Calls Try.prog 13 #[.agg #[.int .u32 a, .int .u32 b]] w fun e w' => e = .returned (.agg #[.int .u32 (fneg a), .int .u32 (fneg b)]) ∧ Below w.heap.size w w' := by
  have h1 : ∀ w, (Op.unary .neg (.complex .f32 a.toNat b.toNat)).run Try.prog w = .ok (.complex .f32 (Op.negFloat .f32 a.toNat) (Op.negFloat .f32 b.toNat)) w := fun w => rfl
  obtain ⟨e1, k1⟩ := neg_raw a.toNat (by omega)
  obtain ⟨e2, k2⟩ := neg_raw b.toNat (by omega)
  rw [Int.toNat_of_nonneg a0] at e1
  rw [Int.toNat_of_nonneg b0] at e2
  generalize Op.negFloat .f32 a.toNat = za at *
  generalize Op.negFloat .f32 b.toNat = zb at *
  go_enter Try.func13, Try.ntmps13
  go_wp2_with (first
    | (go_at_call 34; refine (pvalue_any _ (by assumption) (by assumption) _ (by assumption) (by assumption) _).mono ?_; rintro e w' ⟨rfl, o, n, rfl⟩)
    | (go_at_call 33; refine (pparts_any _ _ (by assumption) (by assumption) _).mono ?_; rintro e w' ⟨rfl, o, rfl⟩))
  all_goals (go_wp2; go_returns; exact ⟨rfl, by first | (refine below_dn _ _ ?_; go_grown; done) | (go_grown; done)⟩)

set_option maxHeartbeats 400000 in
theorem pconj_any (a : Int) (a0 : 0 ≤ a) (a1 : a < 4294967296) (b : Int) (b0 : 0 ≤ b) (b1 : b < 4294967296) (w : World) :
    Calls Try.prog 15 #[.agg #[.int .u32 a, .int .u32 b]] w fun e w' => e = .returned (.agg #[.int .u32 (canon a), .int .u32 (fneg b)]) ∧ Below w.heap.size w w' := by
  have h1 : ∀ w, (Op.unary .neg (.float .f32 b.toNat)).run Try.prog w = .ok (.float .f32 (Op.negFloat .f32 b.toNat)) w := fun w => rfl
  have k1 : a.toNat < 4294967296 := by omega
  have e1 : canon (max a 0) = canon a := by rw [show max a 0 = a by omega]
  obtain ⟨e2, k2⟩ := neg_raw b.toNat (by omega)
  rw [Int.toNat_of_nonneg b0] at e2
  generalize Op.negFloat .f32 b.toNat = zb at *
  go_enter Try.func15, Try.ntmps15
  go_wp2_with (first
    | (go_at_call 34; refine (pvalue_any _ (by assumption) (by assumption) _ (by assumption) (by assumption) _).mono ?_; rintro e w' ⟨rfl, o, n, rfl⟩)
    | (go_at_call 33; refine (pparts_any _ _ (by assumption) (by assumption) _).mono ?_; rintro e w' ⟨rfl, o, rfl⟩))
  all_goals (go_wp2; go_returns; exact ⟨rfl, by first | (refine below_dn _ _ ?_; go_grown; done) | (go_grown; done)⟩)

set_option maxHeartbeats 400000 in
theorem pscale_any (a : Int) (a0 : 0 ≤ a) (a1 : a < 4294967296) (b : Int) (b0 : 0 ≤ b) (b1 : b < 4294967296) (f : Int) (f0 : 0 ≤ f) (f1 : f < 4294967296) (w : World) :
    Calls Try.prog 17 #[.agg #[.int .u32 a, .int .u32 b], .int .u32 f] w fun e w' => e = .returned (.agg #[.int .u32 (fmul a f), .int .u32 (fmul b f)]) ∧ Below w.heap.size w w' := by
  have h1 := fun t x y w => run_fmul (P := Try.prog) w t x y
  have e1 : ∀ w, canon (rmul w a.toNat f.toNat) = fmul a f := fun w => by rw [rmul_canon, Int.toNat_of_nonneg a0, Int.toNat_of_nonneg f0]
  have e2 : ∀ w, canon (rmul w b.toNat f.toNat) = fmul b f := fun w => by rw [rmul_canon, Int.toNat_of_nonneg b0, Int.toNat_of_nonneg f0]
  go_enter Try.func17, Try.ntmps17
  go_wp2_with (first
    | (go_at_call 34; refine (pvalue_any _ (by assumption) (by assumption) _ (by assumption) (by assumption) _).mono ?_; rintro e w' ⟨rfl, o, n, rfl⟩)
    | (go_at_call 39; refine (ppart_any _ (by assumption) (by assumption) _).mono ?_; rintro e w' ⟨rfl, rfl⟩)
    | (go_at_call 33; refine (pparts_any _ _ (rmul_lt _ _ _) (rmul_lt _ _ _) _).mono ?_; rintro e w' ⟨rfl, o, rfl⟩))
  all_goals (go_wp2; go_returns; exact ⟨rfl, by first | (refine below_dn _ _ ?_; go_grown; done) | (go_grown; done)⟩)

set_option maxHeartbeats 400000 in
theorem pmul_any (a : Int) (a0 : 0 ≤ a) (a1 : a < 4294967296) (b : Int) (b0 : 0 ≤ b) (b1 : b < 4294967296) (c : Int) (c0 : 0 ≤ c) (c1 : c < 4294967296) (d : Int) (d0 : 0 ≤ d) (d1 : d < 4294967296) (w : World) :
    Calls Try.prog 20 #[.agg #[.int .u32 a, .int .u32 b], .agg #[.int .u32 c, .int .u32 d]] w fun e w' => e = .returned (.agg #[.int .u32 (fsub (fmul a c) (fmul b d)), .int .u32 (fadd (fmul a d) (fmul b c))]) ∧ Below w.heap.size w w' := by
  have ea := Int.toNat_of_nonneg a0
  have eb := Int.toNat_of_nonneg b0
  have ec := Int.toNat_of_nonneg c0
  have ed := Int.toNat_of_nonneg d0
  have H : ∀ w, Calls Try.prog 41 #[.complex .f32 a.toNat b.toNat, .complex .f32 c.toNat d.toNat] w fun e w' => (∃ x y : Nat, e = .returned (.complex .f32 x y) ∧ x < 4294967296 ∧ y < 4294967296 ∧
      canon x = fsub (fmul a c) (fmul b d) ∧ canon y = fadd (fmul a d) (fmul b c)) ∧ ∃ n, w' = w.drewN n := fun w => by
    have := ptimes_any a.toNat b.toNat c.toNat d.toNat w
    rw [ea, eb, ec, ed] at this; exact this
  clear ea eb ec ed
  go_enter Try.func20, Try.ntmps20
  go_wp2
  go_region_with (first
    | (go_at_call 34; refine (pvalue_any _ (by assumption) (by assumption) _ (by assumption) (by assumption) _).mono ?_; rintro e w' ⟨rfl, o, n, rfl⟩)
    | (go_at_call 41; refine (H _).mono ?_; rintro e w' ⟨⟨x, y, rfl, hx, hy, ex, ey⟩, n, rfl⟩)
    | (go_at_call 33; refine (pparts_any _ _ (by assumption) (by assumption) _).mono ?_; rintro e w' ⟨rfl, o, rfl⟩))
  all_goals (go_wp2; go_returns; exact ⟨rfl, by first | (refine below_dn _ _ ?_; go_grown; done) | (go_grown; done)⟩)

set_option maxHeartbeats 400000 in
theorem psquare_any (a : Int) (a0 : 0 ≤ a) (a1 : a < 4294967296) (b : Int) (b0 : 0 ≤ b) (b1 : b < 4294967296) (w : World) :
    Calls Try.prog 22 #[.agg #[.int .u32 a, .int .u32 b]] w fun e w' => e = .returned (.int .u32 (fadd (fmul a a) (fmul b b))) ∧ Below w.heap.size w w' := by
  have h1 := fun t x y w => run_fadd (P := Try.prog) w t x y
  have h3 := fun t x y w => run_fmul (P := Try.prog) w t x y
  have e1 : ∀ w1 w2 w3, canon (radd w3 (rmul w1 a.toNat a.toNat) (rmul w2 b.toNat b.toNat)) = fadd (fmul a a) (fmul b b) := fun w1 w2 w3 => by rw [mul_raw' a.toNat b.toNat b.toNat a.toNat, Int.toNat_of_nonneg a0, Int.toNat_of_nonneg b0]
  go_enter Try.func22, Try.ntmps22
  go_wp2_with (first
    | (go_at_call 34; refine (pvalue_any _ (by assumption) (by assumption) _ (by assumption) (by assumption) _).mono ?_; rintro e w' ⟨rfl, o, n, rfl⟩)
    | (go_at_call 42; refine (ptold_any _ (radd_lt _ _ _) _).mono ?_; rintro e w' ⟨rfl, rfl⟩))
  all_goals (go_ret; exact ⟨rfl, by first | (refine below_dn _ _ ?_; go_grown; done) | (go_grown; done)⟩)

end Go.Proofs.Ytjbcafkpcgehdaa
