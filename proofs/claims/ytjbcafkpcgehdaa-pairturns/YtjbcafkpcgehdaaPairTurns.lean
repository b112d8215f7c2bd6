import Derived.Test.YtjbcafkpcgehdaaPairLaws2
/- The statement PairTurns: its walk. -/
namespace Go.Proofs.Ytjbcafkpcgehdaa
open Go.RowKit
set_option linter.unusedVariables false

theorem kept_zw (w : World) (a b c d : Int) (t : TypeId) : Kept w [(⟨w.heap.size, 0, none⟩, .int .u32 a), (⟨w.heap.size, 1, none⟩, .int .u32 b), (⟨w.heap.size + 1, 0, none⟩, .int .u32 c), (⟨w.heap.size + 1, 1, none⟩, .int .u32 d)] ((w.alloc (.cells #[.int .u32 a, .int .u32 b] t)).alloc (.cells #[.int .u32 c, .int .u32 d] t)) := by
  have h := ((((Kept.nil w).new (.int .u32 a) (.int .u32 b) t).kept).new (.int .u32 c) (.int .u32 d) t).kept
  simp only [World.size_alloc] at h
  exact h

set_option maxHeartbeats 4000000 in
theorem walk_PairTurns (a : Int) (a0 : 0 ≤ a) (a1 : a < 4294967296) (b : Int) (b0 : 0 ≤ b) (b1 : b < 4294967296) (c : Int) (c0 : 0 ≤ c) (c1 : c < 4294967296) (d : Int) (d0 : 0 ≤ d) (d1 : d < 4294967296) (w : World) :
    Calls Try.prog 7 #[.agg #[.int .u32 a, .int .u32 b], .agg #[.int .u32 c, .int .u32 d]] w fun e w' => e = .returned (.bool true) ∧ Below w.heap.size w w' := by
  have la : 0 ≤ canon a ∧ canon a < 4294967296 := canon_lo a a0 a1
  have lc : 0 ≤ canon c ∧ canon c < 4294967296 := canon_lo c c0 c1
  have lb := fneg_lo b b0 b1
  have ld := fneg_lo d d0 d1
  have hcr := conj_re a b c d a0 b0 b1 c0 d0 d1
  have HI : Hid (alk (fneg (fadd (fmul a d) (fmul b c))) (fadd (fmul (canon a) (fneg d)) (fmul (fneg b) (canon c)))) := conj_im a b c d a0 b0 b1 c0 d0 d1
  have hsq := square_re a b a0 b0 b1
  have hm1 : fsub (fmul c a) (fmul d b) = fsub (fmul a c) (fmul b d) := by rw [fmul_comm c a, fmul_comm d b]
  have hm2 : fadd (fmul c b) (fmul d a) = fadd (fmul a d) (fmul b c) := by rw [fmul_comm c b, fmul_comm d a, fadd_comm]
  have hm3 : canon (fsub (fmul a c) (fmul b d)) = fsub (fmul a c) (fmul b d) := fsub_canon _ _
  rw [hm3] at hcr
  have lm1 := fsub_lo (fmul a c) (fmul b d)
  have lm2 := fadd_lo (fmul a d) (fmul b c)
  have lm3 := fneg_lo _ lm2.1 lm2.2
  have ld2 := fadd_lo (fmul (canon a) (fneg d)) (fmul (fneg b) (canon c))
  obtain ⟨la0, la1⟩ := la
  obtain ⟨lb0, lb1⟩ := lb
  obtain ⟨lc0, lc1⟩ := lc
  obtain ⟨ld0, ld1⟩ := ld
  obtain ⟨m10, m11⟩ := lm1
  obtain ⟨m20, m21⟩ := lm2
  obtain ⟨m30, m31⟩ := lm3
  obtain ⟨d20, d21⟩ := ld2
  have hf : ∀ (w : World) (x y : Value), (Instr.field 25 (.agg #[x, y]) 0).run Try.prog w = .ok x w := fun w x y => by simp [Instr.field, run_underlying Try.underlying25, asAgg, part, go_sem]
  go_enter Try.func7, Try.ntmps7
  go_wp2_with (first
    | (go_at_call 20; refine (pmul_any _ (by first | assumption | omega | exact (fsub_lo _ _).1 | exact (fadd_lo _ _).1) (by first | assumption | omega | exact (fsub_lo _ _).2 | exact (fadd_lo _ _).2) _ (by first | assumption | omega | exact (fsub_lo _ _).1 | exact (fadd_lo _ _).1) (by first | assumption | omega | exact (fsub_lo _ _).2 | exact (fadd_lo _ _).2) _ (by first | assumption | omega | exact (fsub_lo _ _).1 | exact (fadd_lo _ _).1) (by first | assumption | omega | exact (fsub_lo _ _).2 | exact (fadd_lo _ _).2) _ (by first | assumption | omega | exact (fsub_lo _ _).1 | exact (fadd_lo _ _).1) (by first | assumption | omega | exact (fsub_lo _ _).2 | exact (fadd_lo _ _).2) _).mono ?_; rintro e w1 ⟨rfl, hb⟩; have hp := Kept.below (kept_zw w a b c d _) hb; have c0 := hp.cell 0 rfl; have c1 := hp.cell 1 rfl; have c2 := hp.cell 2 rfl; have c3 := hp.cell 3 rfl; have hm := Kept.new hp (.int .u32 (fsub (fmul a c) (fmul b d))) (.int .u32 (fadd (fmul a d) (fmul b c))) 25)
    | (go_at_call 15; refine (pconj_any _ (by first | assumption | omega | exact (fsub_lo _ _).1 | exact (fadd_lo _ _).1) (by first | assumption | omega | exact (fsub_lo _ _).2 | exact (fadd_lo _ _).2) _ (by first | assumption | omega | exact (fsub_lo _ _).1 | exact (fadd_lo _ _).1) (by first | assumption | omega | exact (fsub_lo _ _).2 | exact (fadd_lo _ _).2) _).mono ?_; rintro e w2 ⟨rfl, hb⟩; have hm := KD.below hm hb; have hp := hm.kept; have c0 := hp.cell 0 rfl; have c1 := hp.cell 1 rfl; have c2 := hp.cell 2 rfl; have c3 := hp.cell 3 rfl; have c4 := hp.cell 4 rfl; have c5 := hp.cell 5 rfl; have hc := Kept.new hp (.int .u32 (fsub (fmul a c) (fmul b d))) (.int .u32 (fneg (fadd (fmul a d) (fmul b c)))) 25))
  have hp := hc.kept
  have c0 := hp.cell 0 rfl; have c1 := hp.cell 1 rfl; have c2 := hp.cell 2 rfl; have c3 := hp.cell 3 rfl
  go_cut [7] (fun dv wx => ∃ g, dv = .pointer (some ⟨g, 0, none⟩) ∧ KD w ([(⟨w.heap.size, 0, none⟩, .int .u32 a), (⟨w.heap.size, 1, none⟩, .int .u32 b), (⟨w.heap.size + 1, 0, none⟩, .int .u32 c), (⟨w.heap.size + 1, 1, none⟩, .int .u32 d)] ++ [(⟨w1.heap.size, 0, none⟩, .int .u32 (fsub (fmul a c) (fmul b d))), (⟨w1.heap.size, 1, none⟩, .int .u32 (fadd (fmul a d) (fmul b c)))] ++ [(⟨w2.heap.size, 0, none⟩, .int .u32 (fsub (fmul a c) (fmul b d))), (⟨w2.heap.size, 1, none⟩, .int .u32 (fneg (fadd (fmul a d) (fmul b c))))]) g (.int .u32 (fsub (fmul a c) (fmul b d))) (.int .u32 (fadd (fmul (canon a) (fneg d)) (fmul (fneg b) (canon c)))) wx)
  case first =>
    have n1 : w2.heap.size + 1 ≠ w.heap.size := by have := mcell_lt (hm.kept.cell 0 rfl); dsimp only at this; omega
    have n2 : w2.heap.size ≠ w.heap.size := by have := mcell_lt (hm.kept.cell 0 rfl); dsimp only at this; omega
    go_region_held3 (fun w' => w'.cell? ⟨w.heap.size, 0, none⟩ = some (.int .u32 a) ∧ w'.cell? ⟨w.heap.size, 1, none⟩ = some (.int .u32 b) ∧ w'.cell? ⟨w.heap.size + 1, 0, none⟩ = some (.int .u32 c) ∧ w'.cell? ⟨w.heap.size + 1, 1, none⟩ = some (.int .u32 d)) (first | go_keep | (dsimp only; refine ⟨?_, ?_, ?_, ?_⟩ <;> go_keep)) (first
      | (go_at_call_of 15 (Value.agg #[Value.int IntKind.u32 a, Value.int IntKind.u32 b]); refine (pconj_any _ (by first | assumption | omega | exact (fsub_lo _ _).1 | exact (fadd_lo _ _).1) (by first | assumption | omega | exact (fsub_lo _ _).2 | exact (fadd_lo _ _).2) _ (by first | assumption | omega | exact (fsub_lo _ _).1 | exact (fadd_lo _ _).1) (by first | assumption | omega | exact (fsub_lo _ _).2 | exact (fadd_lo _ _).2) _).mono ?_; rintro e w3 ⟨rfl, hb3⟩; (try (have d3 := KD.below (Kept.new hp (.int .u32 0) (.int .u32 0) 25).drew hb3; simp only [World.size_alloc] at d3)); have h3 := Kept.below (by first | exact hp.drew | exact (hp.alloc _).drew) hb3; have c0 := h3.cell 0 rfl; have c1 := h3.cell 1 rfl; have c2 := h3.cell 2 rfl; have c3 := h3.cell 3 rfl; have : w3.heap.size ≠ w.heap.size := (by have := h3.ne 0 rfl; exact this); have : w3.heap.size ≠ w.heap.size + 1 := (by have := h3.ne 2 rfl; exact this))
      | (go_at_call_of 15 (Value.agg #[Value.int IntKind.u32 c, Value.int IntKind.u32 d]); refine (pconj_any _ (by first | assumption | omega | exact (fsub_lo _ _).1 | exact (fadd_lo _ _).1) (by first | assumption | omega | exact (fsub_lo _ _).2 | exact (fadd_lo _ _).2) _ (by first | assumption | omega | exact (fsub_lo _ _).1 | exact (fadd_lo _ _).1) (by first | assumption | omega | exact (fsub_lo _ _).2 | exact (fadd_lo _ _).2) _).mono ?_; rintro e w4 ⟨rfl, hb4⟩; (first | have d4 := KD.below d3 hb4 | have d4 := KD.below (Kept.new h3 (.int .u32 0) (.int .u32 0) 25) hb4 | skip); have h4 := Kept.below (by first | exact h3 | exact h3.alloc _) hb4; have c0 := h4.cell 0 rfl; have c1 := h4.cell 1 rfl; have c2 := h4.cell 2 rfl; have c3 := h4.cell 3 rfl; have : w4.heap.size ≠ w.heap.size := (by have := h4.ne 0 rfl; exact this); have : w4.heap.size ≠ w.heap.size + 1 := (by have := h4.ne 2 rfl; exact this))
      | (go_at_call 20; refine (pmul_any _ (by first | assumption | omega | exact (fsub_lo _ _).1 | exact (fadd_lo _ _).1) (by first | assumption | omega | exact (fsub_lo _ _).2 | exact (fadd_lo _ _).2) _ (by first | assumption | omega | exact (fsub_lo _ _).1 | exact (fadd_lo _ _).1) (by first | assumption | omega | exact (fsub_lo _ _).2 | exact (fadd_lo _ _).2) _ (by first | assumption | omega | exact (fsub_lo _ _).1 | exact (fadd_lo _ _).1) (by first | assumption | omega | exact (fsub_lo _ _).2 | exact (fadd_lo _ _).2) _ (by first | assumption | omega | exact (fsub_lo _ _).1 | exact (fadd_lo _ _).1) (by first | assumption | omega | exact (fsub_lo _ _).2 | exact (fadd_lo _ _).2) _).mono ?_; rintro e w5 ⟨rfl, hb5⟩; (first | have d5 := KD.below d4 hb5 | have d5 := KD.below (Kept.new h4 (.int .u32 0) (.int .u32 0) 25) hb5 | skip); have h5 := Kept.below (by first | exact h4 | exact h4.alloc _) hb5; have c0 := h5.cell 0 rfl; have c1 := h5.cell 1 rfl; have c2 := h5.cell 2 rfl; have c3 := h5.cell 3 rfl; (try have := d5.g0); (try have := d5.g1); (try have := d5.e0); (try have := d5.e1)))
    all_goals (go_wp2; go_meet)
    all_goals first
      | exact ⟨_, rfl, KD.put d5 _ _⟩
      | exact ⟨_, rfl, Kept.new h5 _ _ _⟩
  case rest =>
    clear hp hm hc
    obtain ⟨g, rfl, hd⟩ := hcut
    have hp := hd.kept
    clear hd
    have c0 := hp.cell 0 rfl; have c1 := hp.cell 1 rfl; have c2 := hp.cell 2 rfl; have c3 := hp.cell 3 rfl; have c4 := hp.cell 4 rfl; have c5 := hp.cell 5 rfl; have c6 := hp.cell 6 rfl; have c7 := hp.cell 7 rfl; have c8 := hp.cell 8 rfl; have c9 := hp.cell 9 rfl
    go_wp2
    go_region_held3 (fun w' => w'.cell? ⟨w.heap.size, 0, none⟩ = some (.int .u32 a) ∧ w'.cell? ⟨w.heap.size, 1, none⟩ = some (.int .u32 b) ∧ w'.cell? ⟨w.heap.size + 1, 0, none⟩ = some (.int .u32 c) ∧ w'.cell? ⟨w.heap.size + 1, 1, none⟩ = some (.int .u32 d) ∧ w'.cell? ⟨w1.heap.size, 0, none⟩ = some (.int .u32 (fsub (fmul a c) (fmul b d))) ∧ w'.cell? ⟨w1.heap.size, 1, none⟩ = some (.int .u32 (fadd (fmul a d) (fmul b c))) ∧ w'.cell? ⟨w2.heap.size, 0, none⟩ = some (.int .u32 (fsub (fmul a c) (fmul b d))) ∧ w'.cell? ⟨w2.heap.size, 1, none⟩ = some (.int .u32 (fneg (fadd (fmul a d) (fmul b c)))) ∧ w'.cell? ⟨g, 0, none⟩ = some (.int .u32 (fsub (fmul a c) (fmul b d))) ∧ w'.cell? ⟨g, 1, none⟩ = some (.int .u32 (fadd (fmul (canon a) (fneg d)) (fmul (fneg b) (canon c))))) (go_keep) (first
      | (go_at_call 20; refine (pmul_any _ (by first | assumption | omega | exact (fsub_lo _ _).1 | exact (fadd_lo _ _).1) (by first | assumption | omega | exact (fsub_lo _ _).2 | exact (fadd_lo _ _).2) _ (by first | assumption | omega | exact (fsub_lo _ _).1 | exact (fadd_lo _ _).1) (by first | assumption | omega | exact (fsub_lo _ _).2 | exact (fadd_lo _ _).2) _ (by first | assumption | omega | exact (fsub_lo _ _).1 | exact (fadd_lo _ _).1) (by first | assumption | omega | exact (fsub_lo _ _).2 | exact (fadd_lo _ _).2) _ (by first | assumption | omega | exact (fsub_lo _ _).1 | exact (fadd_lo _ _).1) (by first | assumption | omega | exact (fsub_lo _ _).2 | exact (fadd_lo _ _).2) _).mono ?_; rintro e w3 ⟨rfl, hb⟩; have hp := Kept.below (by first | exact hp | exact hp.drew) hb; have c0 := hp.cell 0 rfl; have c1 := hp.cell 1 rfl; have c2 := hp.cell 2 rfl; have c3 := hp.cell 3 rfl; have c4 := hp.cell 4 rfl; have c5 := hp.cell 5 rfl; have c6 := hp.cell 6 rfl; have c7 := hp.cell 7 rfl; have c8 := hp.cell 8 rfl; have c9 := hp.cell 9 rfl)
      | (go_at_call 15; refine (pconj_any _ (by first | assumption | omega | exact (fsub_lo _ _).1 | exact (fadd_lo _ _).1) (by first | assumption | omega | exact (fsub_lo _ _).2 | exact (fadd_lo _ _).2) _ (by first | assumption | omega | exact (fsub_lo _ _).1 | exact (fadd_lo _ _).1) (by first | assumption | omega | exact (fsub_lo _ _).2 | exact (fadd_lo _ _).2) _).mono ?_; rintro e w3 ⟨rfl, hb⟩; have hp := Kept.below (by first | exact hp | exact hp.drew) hb; have c0 := hp.cell 0 rfl; have c1 := hp.cell 1 rfl; have c2 := hp.cell 2 rfl; have c3 := hp.cell 3 rfl; have c4 := hp.cell 4 rfl; have c5 := hp.cell 5 rfl; have c6 := hp.cell 6 rfl; have c7 := hp.cell 7 rfl; have c8 := hp.cell 8 rfl; have c9 := hp.cell 9 rfl)
      | (go_at_call 22; refine (psquare_any _ (by first | assumption | omega | exact (fsub_lo _ _).1 | exact (fadd_lo _ _).1) (by first | assumption | omega | exact (fsub_lo _ _).2 | exact (fadd_lo _ _).2) _ (by first | assumption | omega | exact (fsub_lo _ _).1 | exact (fadd_lo _ _).1) (by first | assumption | omega | exact (fsub_lo _ _).2 | exact (fadd_lo _ _).2) _).mono ?_; rintro e w3 ⟨rfl, hb⟩; have hp := Kept.below (by first | exact hp | exact hp.drew) hb; have c0 := hp.cell 0 rfl; have c1 := hp.cell 1 rfl; have c2 := hp.cell 2 rfl; have c3 := hp.cell 3 rfl; have c4 := hp.cell 4 rfl; have c5 := hp.cell 5 rfl; have c6 := hp.cell 6 rfl; have c7 := hp.cell 7 rfl; have c8 := hp.cell 8 rfl; have c9 := hp.cell 9 rfl)
      | (go_at_call 30; refine (alike_any _ (by first | assumption | omega | exact (fsub_lo _ _).1 | exact (fadd_lo _ _).1) (by first | assumption | omega | exact (fsub_lo _ _).2 | exact (fadd_lo _ _).2) _ (by first | assumption | omega | exact (fsub_lo _ _).1 | exact (fadd_lo _ _).1) (by first | assumption | omega | exact (fsub_lo _ _).2 | exact (fadd_lo _ _).2) (by first | exact HI.out | exact .inl rfl) _).mono ?_; rintro e w3 ⟨rfl, rfl⟩)
      | (go_at_call 19; refine (pworks_any _).mono ?_; rintro e w3 ⟨rfl, hb⟩; have hp := Kept.below (by first | exact hp | exact hp.drew) hb; have c0 := hp.cell 0 rfl; have c1 := hp.cell 1 rfl; have c2 := hp.cell 2 rfl; have c3 := hp.cell 3 rfl; have c4 := hp.cell 4 rfl; have c5 := hp.cell 5 rfl; have c6 := hp.cell 6 rfl; have c7 := hp.cell 7 rfl; have c8 := hp.cell 8 rfl; have c9 := hp.cell 9 rfl))
    all_goals (go_wp2; go_ret; exact ⟨rfl, hp.bel⟩)

end Go.Proofs.Ytjbcafkpcgehdaa
