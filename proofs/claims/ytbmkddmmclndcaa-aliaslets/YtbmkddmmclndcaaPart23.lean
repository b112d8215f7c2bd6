import Derived.Test.YtbmkddmmclndcaaPart22
import Derived.Test.YtbmkddmmclndcaaPart2
/- The head of layer 12's statements. (tool/layer12/gensure.py) -/
namespace Go.Proofs.Ytbmkddmmclndcaa
open Go.RowKit
set_option linter.unusedVariables false
set_option linter.unusedSimpArgs false

theorem sgdok : ok1 sgdW := by
  refine ⟨⟨by decide, by decide, by decide, by decide⟩, (okL_cons _ _).2 ⟨⟨⟨by decide, by decide, by decide, by decide⟩, okL_nil⟩, okL_nil⟩⟩
theorem chainok : ok1 chainW := by
  refine ⟨⟨by decide, by decide, by decide, by decide⟩, (okL_cons _ _).2 ⟨⟨⟨by decide, by decide, by decide, by decide⟩, okL_nil⟩, okL_nil⟩⟩
theorem adamok : ok1 adamW := ⟨⟨by decide, by decide, by decide, by decide⟩, okL_nil⟩
theorem kids_any {w : World} {S : Blk} {v : Value} {l : List Nd} (h : Kids w (inH S) v l) : Kids w anyH v l := h.weak fun _ _ _ _ => trivial

set_option maxRecDepth 100000 in
set_option maxHeartbeats 4000000 in
theorem works_any (w : World) :
    Calls Try.prog 8 #[] w fun e w' => e = .returned (.bool true) ∧ Below w.heap.size w w' := by
  obtain ⟨A, B, hA, hB, hE1⟩ := exp_sgd
  have HX1 : Hid (∀ (G : Nat) (x : World), Kids x anyH (.slice (some ⟨G, 0, none⟩) 1 1) [rateW] → Calls Try.prog 9 #[.agg #[.int .i64 1, .string ⟨#[115, 103, 100]⟩, .int .u32 0, .int .i64 0, .string ⟨#[]⟩, .slice (some ⟨G, 0, none⟩) 1 1, .int .i64 0]] x fun e w' => ∃ b c, e = .returned (.tuple #[.agg #[.int .i64 1, .string ⟨#[99, 104, 97, 105, 110]⟩, .int .u32 0, .int .i64 0, .string ⟨#[]⟩, .slice (some ⟨b, 0, none⟩) 2 c, .int .i64 0], .int .i64 0, .int .i64 0]) ∧ (w'.cell? ⟨b, 1, none⟩ = some (.string ⟨#[116, 114, 97, 99, 101]⟩) ∧ w'.cell? ⟨b, 8, none⟩ = some (.string ⟨#[115, 99, 97, 108, 101]⟩)) ∧ Below x.heap.size x w') := fun G x hx => by
    refine (expand_any sgdW _ x (by rw [cnt_sgd]; decide) sgdok hx).mono fun e w' ⟨sv, h1, h2, h3⟩ => ?_
    rw [hE1] at h1 h2
    obtain ⟨p, c, rfl, hq, hk⟩ := h2
    rcases hk with hk | ⟨b, o, rfl, hk⟩
    · cases hk
    · rcases hq with ⟨hh, -⟩ | ⟨b2, hh, -, -⟩
      · cases hh
      · simp only [Option.some.injEq, Addr.mk.injEq] at hh
        obtain ⟨rfl, rfl, -⟩ := hh
        rw [KA_cons, KA_cons] at hk
        refine ⟨b, c, h1, ⟨?_, ?_⟩, h3⟩
        · have := hk.1.2.1; rw [hA] at this; exact this
        · have := hk.2.1.2.1; rw [hB] at this; exact this
  have HX2 : Hid (∀ (G2 : Nat) (x : World), Kids x anyH (.slice (some ⟨G2, 0, none⟩) 1 1) [rateW] → Calls Try.prog 9 #[.agg #[.int .i64 1, .string ⟨#[99, 104, 97, 105, 110]⟩, .int .u32 0, .int .i64 0, .string ⟨#[]⟩, .slice (some ⟨G2, 0, none⟩) 1 1, .int .i64 0]] x fun e w' => ∃ p2 c2, e = .returned (.tuple #[.agg #[.int .i64 1, .string ⟨#[99, 104, 97, 105, 110]⟩, .int .u32 0, .int .i64 0, .string ⟨#[]⟩, .slice p2 1 c2, .int .i64 0], .int .i64 0, .int .i64 0]) ∧ Below x.heap.size x w') := fun G x hx => by
    refine (expand_any chainW _ x (by rw [cnt_chain]; decide) chainok hx).mono fun e w' ⟨sv, h1, h2, h3⟩ => ?_
    rw [exp_chain] at h1 h2
    obtain ⟨p, c, rfl, -⟩ := h2
    exact ⟨p, c, h1, h3⟩
  have HX3 : Hid (∀ (x : World), Calls Try.prog 9 #[.agg #[.int .i64 1, .string ⟨#[97, 100, 97, 109]⟩, .int .u32 0, .int .i64 0, .string ⟨#[]⟩, .slice none 0 0, .int .i64 0]] x fun e w' => ∃ p3 c3, e = .returned (.tuple #[.agg #[.int .i64 0, .string ⟨#[]⟩, .int .u32 0, .int .i64 0, .string ⟨#[]⟩, .slice p3 0 c3, .int .i64 0], .int .i64 131, .int .i64 0]) ∧ Below x.heap.size x w') := fun x => by
    refine (expand_any adamW (.slice none 0 0) x (by rw [cnt_adam]; decide) adamok ⟨none, 0, rfl, trivial, .inl rfl⟩).mono fun e w' ⟨sv, h1, h2, h3⟩ => ?_
    rw [exp_adam] at h1 h2
    obtain ⟨p, c, rfl, -⟩ := h2
    exact ⟨p, c, h1, h3⟩
  clear hA hB hE1
  obtain ⟨W, hW, hX, hB0, hs⟩ := new_box w
  obtain ⟨⟨g0, g1, g2, g3, g4, g5, g6⟩, f0, f1, f2, f3, f4, f5, f6⟩ := sevenA hX
  have HW := hidM hX
  have HB0 := hidM hB0
  clear hX hB0 hs
  go_enter Try.func8, Try.ntmps8
  go_upto_region 2 with fail
  have hx1 := put_sevenA HW.out (.int .i64 2) (.string ⟨#[]⟩) (.int .u32 1036831949) (.int .i64 0) (.string ⟨#[]⟩) (.slice none 0 0) (.int .i64 4)
  have hb1 := below_seven HB0.out (.int .i64 2) (.string ⟨#[]⟩) (.int .u32 1036831949) (.int .i64 0) (.string ⟨#[]⟩) (.slice none 0 0) (.int .i64 4)
  obtain ⟨U1, hU1⟩ : ∃ UU, (((((((W.setCell ⟨w.heap.size, 0, none⟩ (.int .i64 2)).setCell ⟨w.heap.size, 1, none⟩ (.string ⟨#[]⟩)).setCell ⟨w.heap.size, 2, none⟩ (.int .u32 1036831949)).setCell ⟨w.heap.size, 3, none⟩ (.int .i64 0)).setCell ⟨w.heap.size, 4, none⟩ (.string ⟨#[]⟩)).setCell ⟨w.heap.size, 5, none⟩ (.slice none 0 0)).setCell ⟨w.heap.size, 6, none⟩ (.int .i64 4)) = UU := ⟨_, rfl⟩
  rw [hU1] at hx1 hb1 ⊢
  have HR1 := hidM hx1
  have HB1 := hidM hb1
  clear hU1 hW g0 g1 g2 g3 g4 g5 g6 f0 f1 f2 f3 f4 f5 f6
  obtain ⟨⟨g0, g1, g2, g3, g4, g5, g6⟩, -⟩ := sevenA hx1
  clear hx1 hb1
  obtain ⟨U2, hU2⟩ : ∃ UU, U1.alloc (.cells #[.int .i64 2, .string ⟨#[]⟩, .int .u32 1036831949, .int .i64 0, .string ⟨#[]⟩, .slice none 0 0, .int .i64 4] 26) = UU := ⟨_, rfl⟩
  have hk2 := kids_row (w := U1) (S := fun j => j = U1.heap.size) (R := [(rateW, .slice none 0 0)]) (cs := #[.int .i64 2, .string ⟨#[]⟩, .int .u32 1036831949, .int .i64 0, .string ⟨#[]⟩, .slice none 0 0, .int .i64 4]) rfl (fun r hr => by rw [List.mem_singleton.1 hr]; exact kids_none _ _) rfl (by decide)
  have hb2 := bel_alloc U1 (.cells #[.int .i64 2, .string ⟨#[]⟩, .int .u32 1036831949, .int .i64 0, .string ⟨#[]⟩, .slice none 0 0, .int .i64 4] 26)
  rw [hU2] at hk2 hb2
  have HK2 : Hid (Kids U2 anyH (.slice (some ⟨U1.heap.size, 0, none⟩) 1 1) [rateW]) := kids_any hk2
  have HB2 : Hid (Below w.heap.size w U2) := bel HB1.out hb2
  have HR2 : Hid (U2.heap[w.heap.size]? = some (.cells #[.int .i64 2, .string ⟨#[]⟩, .int .u32 1036831949, .int .i64 0, .string ⟨#[]⟩, .slice none 0 0, .int .i64 4] 26)) := (hb2.block _ (hlt HR1.out)).trans HR1.out
  clear hk2 hb2
  obtain ⟨W3, hW3, hX3, hB3, -⟩ := new_box U2
  obtain ⟨⟨q0, q1, q2, q3, q4, q5, q6⟩, r0, r1, r2, r3, r4, r5, r6⟩ := sevenA hX3
  have HX3b := hidM hX3
  have HB3 := hidM hB3
  clear hX3 hB3
  go_upto_region 3 with fail
  obtain ⟨G, hG⟩ : ∃ G, U1.heap.size = G := ⟨_, rfl⟩
  rw [hG] at HK2 ⊢
  have hx3 := put_sevenA HX3b.out (.int .i64 1) (.string ⟨#[115, 103, 100]⟩) (.int .u32 0) (.int .i64 0) (.string ⟨#[]⟩) (.slice (some ⟨G, 0, none⟩) 1 1) (.int .i64 0)
  have hb3 := below_seven HB3.out (.int .i64 1) (.string ⟨#[115, 103, 100]⟩) (.int .u32 0) (.int .i64 0) (.string ⟨#[]⟩) (.slice (some ⟨G, 0, none⟩) 1 1) (.int .i64 0)
  obtain ⟨U3, hU3⟩ : ∃ UU, (((((((W3.setCell ⟨U2.heap.size, 0, none⟩ (.int .i64 1)).setCell ⟨U2.heap.size, 1, none⟩ (.string ⟨#[115, 103, 100]⟩)).setCell ⟨U2.heap.size, 2, none⟩ (.int .u32 0)).setCell ⟨U2.heap.size, 3, none⟩ (.int .i64 0)).setCell ⟨U2.heap.size, 4, none⟩ (.string ⟨#[]⟩)).setCell ⟨U2.heap.size, 5, none⟩ (.slice (some ⟨G, 0, none⟩) 1 1)).setCell ⟨U2.heap.size, 6, none⟩ (.int .i64 0)) = UU := ⟨_, rfl⟩
  rw [hU3] at hx3 hb3 ⊢
  have HK3 : Hid (Kids U3 anyH (.slice (some ⟨G, 0, none⟩) 1 1) [rateW]) := HK2.out.below hb3
  have HB3w : Hid (Below w.heap.size w U3) := bel HB2.out hb3
  have HR3 : Hid (U3.heap[w.heap.size]? = some (.cells #[.int .i64 2, .string ⟨#[]⟩, .int .u32 1036831949, .int .i64 0, .string ⟨#[]⟩, .slice none 0 0, .int .i64 4] 26)) := (hb3.block _ (hlt HR2.out)).trans HR2.out
  obtain ⟨O, hO⟩ : ∃ O, U2.heap.size = O := ⟨_, rfl⟩
  rw [hO] at hx3 ⊢
  clear g0 g1 g2 g3 g4 g5 g6 q0 q1 q2 q3 q4 q5 q6 r0 r1 r2 r3 r4 r5 r6 hU3 hU2 hG hW3 hO hb3 HX3b HB3 HB0 HW
  obtain ⟨⟨q0, q1, q2, q3, q4, q5, q6⟩, -⟩ := sevenA hx3
  clear hx3
  go_upto_region 4 with (go_at_call 9; (with_reducible refine (HX1.out _ _ HK3.out).mono ?_); rintro e v1 ⟨b1, c1, rfl, ⟨hn1, hn8⟩, hb1⟩; have HN1 : Hid (v1.cell? ⟨b1, 1, none⟩ = some (.string ⟨#[116, 114, 97, 99, 101]⟩) ∧ v1.cell? ⟨b1, 8, none⟩ = some (.string ⟨#[115, 99, 97, 108, 101]⟩)) := ⟨hn1, hn8⟩; have HB4 : Hid (Below w.heap.size w v1) := bel HB3w.out hb1; have HR4 : Hid (v1.heap[w.heap.size]? = some (.cells #[.int .i64 2, .string ⟨#[]⟩, .int .u32 1036831949, .int .i64 0, .string ⟨#[]⟩, .slice none 0 0, .int .i64 4] 26)) := (hb1.block _ (hlt HR3.out)).trans HR3.out; clear hn1 hn8 hb1; obtain ⟨W5, hW5, hX5, hB5, -⟩ := new_box v1; obtain ⟨⟨s0, s1, s2, s3, s4, s5, s6⟩, r0, r1, r2, r3, r4, r5, r6⟩ := sevenA hX5; have HX5 := hidM hX5; have HB5 := hidM hB5; clear hX5 hB5)
  have hx5 := put_sevenA HX5.out (.int .i64 1) (.string ⟨#[99, 104, 97, 105, 110]⟩) (.int .u32 0) (.int .i64 0) (.string ⟨#[]⟩) (.slice (some ⟨b1, 0, none⟩) 2 c1) (.int .i64 0)
  have hb5 := below_seven HB5.out (.int .i64 1) (.string ⟨#[99, 104, 97, 105, 110]⟩) (.int .u32 0) (.int .i64 0) (.string ⟨#[]⟩) (.slice (some ⟨b1, 0, none⟩) 2 c1) (.int .i64 0)
  obtain ⟨U5, hU5⟩ : ∃ UU, (((((((W5.setCell ⟨v1.heap.size, 0, none⟩ (.int .i64 1)).setCell ⟨v1.heap.size, 1, none⟩ (.string ⟨#[99, 104, 97, 105, 110]⟩)).setCell ⟨v1.heap.size, 2, none⟩ (.int .u32 0)).setCell ⟨v1.heap.size, 3, none⟩ (.int .i64 0)).setCell ⟨v1.heap.size, 4, none⟩ (.string ⟨#[]⟩)).setCell ⟨v1.heap.size, 5, none⟩ (.slice (some ⟨b1, 0, none⟩) 2 c1)).setCell ⟨v1.heap.size, 6, none⟩ (.int .i64 0)) = UU := ⟨_, rfl⟩
  rw [hU5] at hx5 hb5 ⊢
  have HB5w : Hid (Below w.heap.size w U5) := bel HB4.out hb5
  have HR5 : Hid (U5.heap[w.heap.size]? = some (.cells #[.int .i64 2, .string ⟨#[]⟩, .int .u32 1036831949, .int .i64 0, .string ⟨#[]⟩, .slice none 0 0, .int .i64 4] 26)) := (hb5.block _ (hlt HR4.out)).trans HR4.out
  have HN5 : Hid (U5.cell? ⟨b1, 1, none⟩ = some (.string ⟨#[116, 114, 97, 99, 101]⟩) ∧ U5.cell? ⟨b1, 8, none⟩ = some (.string ⟨#[115, 99, 97, 108, 101]⟩)) := ⟨(hb5.cell (mcell_lt HN1.out.1)).trans HN1.out.1, (hb5.cell (mcell_lt HN1.out.2)).trans HN1.out.2⟩
  obtain ⟨O1, hO1⟩ : ∃ O, v1.heap.size = O := ⟨_, rfl⟩
  rw [hO1] at hx5 ⊢
  have HA5 := hidM hx5
  clear q0 q1 q2 q3 q4 q5 q6 s0 s1 s2 s3 s4 s5 s6 r0 r1 r2 r3 r4 r5 r6 hU5 hW5 hO1 hb5 hx5 HX5 HB5 HN1 HR4 HB4 HX1
  obtain ⟨⟨g0, g1, g2, g3, g4, g5, g6⟩, -⟩ := sevenA HR5.out
  obtain ⟨U6, hU6⟩ : ∃ UU, U5.alloc (.cells #[.int .i64 2, .string ⟨#[]⟩, .int .u32 1036831949, .int .i64 0, .string ⟨#[]⟩, .slice none 0 0, .int .i64 4] 26) = UU := ⟨_, rfl⟩
  have hk6 := kids_row (w := U5) (S := fun j => j = U5.heap.size) (R := [(rateW, .slice none 0 0)]) (cs := #[.int .i64 2, .string ⟨#[]⟩, .int .u32 1036831949, .int .i64 0, .string ⟨#[]⟩, .slice none 0 0, .int .i64 4]) rfl (fun r hr => by rw [List.mem_singleton.1 hr]; exact kids_none _ _) rfl (by decide)
  have hb6 := bel_alloc U5 (.cells #[.int .i64 2, .string ⟨#[]⟩, .int .u32 1036831949, .int .i64 0, .string ⟨#[]⟩, .slice none 0 0, .int .i64 4] 26)
  rw [hU6] at hk6 hb6
  have HK6 : Hid (Kids U6 anyH (.slice (some ⟨U5.heap.size, 0, none⟩) 1 1) [rateW]) := kids_any hk6
  have HB6 : Hid (Below U5.heap.size U5 U6) := hb6
  clear hk6 hb6
  go_upto_region 5 with (go_at_call 9; (with_reducible refine (HX2.out _ _ HK6.out).mono ?_); rintro e v2 ⟨p2, c2, rfl, hb2⟩; have HB7 : Hid (Below U5.heap.size U5 v2) := bel HB6.out hb2; clear hb2; obtain ⟨W7, hW7, hX7, hB7, -⟩ := new_box v2; obtain ⟨⟨s0, s1, s2, s3, s4, s5, s6⟩, r0, r1, r2, r3, r4, r5, r6⟩ := sevenA hX7; have HX7 := hidM hX7; have HB7b := hidM hB7; clear hX7 hB7)
  have hx7 := put_sevenA HX7.out (.int .i64 1) (.string ⟨#[99, 104, 97, 105, 110]⟩) (.int .u32 0) (.int .i64 0) (.string ⟨#[]⟩) (.slice p2 1 c2) (.int .i64 0)
  have hb7 := below_seven HB7b.out (.int .i64 1) (.string ⟨#[99, 104, 97, 105, 110]⟩) (.int .u32 0) (.int .i64 0) (.string ⟨#[]⟩) (.slice p2 1 c2) (.int .i64 0)
  obtain ⟨U7, hU7⟩ : ∃ UU, (((((((W7.setCell ⟨v2.heap.size, 0, none⟩ (.int .i64 1)).setCell ⟨v2.heap.size, 1, none⟩ (.string ⟨#[99, 104, 97, 105, 110]⟩)).setCell ⟨v2.heap.size, 2, none⟩ (.int .u32 0)).setCell ⟨v2.heap.size, 3, none⟩ (.int .i64 0)).setCell ⟨v2.heap.size, 4, none⟩ (.string ⟨#[]⟩)).setCell ⟨v2.heap.size, 5, none⟩ (.slice p2 1 c2)).setCell ⟨v2.heap.size, 6, none⟩ (.int .i64 0)) = UU := ⟨_, rfl⟩
  rw [hU7] at hx7 hb7 ⊢
  have HB7w : Hid (Below U5.heap.size U5 U7) := bel HB7.out hb7
  obtain ⟨O2, hO2⟩ : ∃ O, v2.heap.size = O := ⟨_, rfl⟩
  rw [hO2] at hx7 ⊢
  have HA7 := hidM hx7
  clear g0 g1 g2 g3 g4 g5 g6 s0 s1 s2 s3 s4 s5 s6 r0 r1 r2 r3 r4 r5 r6 hU7 hW7 hO2 hb7 hx7 HX7 HB7b HB7 HX2 hU6 HK6 HB6
  go_upto_region 6 with (go_at_call 9; (with_reducible refine (HX3.out _).mono ?_); rintro e v3 ⟨p3, c3, rfl, hb3⟩; have HB8 : Hid (Below U7.heap.size U7 v3) := hb3; clear hb3; obtain ⟨W9, hW9, hX9, hB9, -⟩ := new_box v3; obtain ⟨⟨s0, s1, s2, s3, s4, s5, s6⟩, r0, r1, r2, r3, r4, r5, r6⟩ := sevenA hX9; have HB9 := hidM hB9; clear hX9 hB9)
  have hb9 := below_seven HB9.out (.int .i64 0) (.string ⟨#[]⟩) (.int .u32 0) (.int .i64 0) (.string ⟨#[]⟩) (.slice p3 0 c3) (.int .i64 0)
  obtain ⟨U9, hU9⟩ : ∃ UU, (((((((W9.setCell ⟨v3.heap.size, 0, none⟩ (.int .i64 0)).setCell ⟨v3.heap.size, 1, none⟩ (.string ⟨#[]⟩)).setCell ⟨v3.heap.size, 2, none⟩ (.int .u32 0)).setCell ⟨v3.heap.size, 3, none⟩ (.int .i64 0)).setCell ⟨v3.heap.size, 4, none⟩ (.string ⟨#[]⟩)).setCell ⟨v3.heap.size, 5, none⟩ (.slice p3 0 c3)).setCell ⟨v3.heap.size, 6, none⟩ (.int .i64 0)) = UU := ⟨_, rfl⟩
  rw [hU9] at hb9 ⊢
  have h79 := bel HB8.out hb9
  have h59 := bel HB7w.out h79
  have HBE : Hid (Below w.heap.size w U9) := bel HB5w.out h59
  clear s0 s1 s2 s3 s4 s5 s6 r0 r1 r2 r3 r4 r5 r6 hU9 hW9 hb9 HX3 HB9 HB8
  obtain ⟨⟨g0, g1, g2, g3, g4, g5, g6⟩, -⟩ := sevenA ((h59.block _ (hlt HA5.out)).trans HA5.out)
  obtain ⟨⟨q0, q1, q2, q3, q4, q5, q6⟩, -⟩ := sevenA ((h79.block _ (hlt HA7.out)).trans HA7.out)
  have n1 := (h59.cell (mcell_lt HN5.out.1)).trans HN5.out.1
  have n8 := (h59.cell (mcell_lt HN5.out.2)).trans HN5.out.2
  clear h79 h59
  go_wp2
  refine bodyPost_ret (by simp [results, Try.results8, go_sem]; try rfl) rfl ?_
  exact ⟨rfl, HBE.out⟩

end Go.Proofs.Ytbmkddmmclndcaa
/- The reference's Names; the statements' left. -/
namespace Go.Proofs.Ytbmkddmmclndcaa
open Go.RowKit
set_option linter.unusedVariables false
set_option linter.unusedSimpArgs false

end Go.Proofs.Ytbmkddmmclndcaa
/- AL3, plainly: no alias and no let is left, and what is without them is its own expansion. -/
namespace Go.Proofs.Ytbmkddmmclndcaa
set_option linter.unusedVariables false
set_option linter.unusedSimpArgs false

/-- Expand's answers. -/
theorem exp_cases (t : Nd) : ((expP t).err ≠ 0 ∧ (expP t).tree = noneN) ∨ (checkP t = 0 ∧ outE t = 0 ∧ (faultA (writtenA t)).1 = 0 ∧ checkP (wholeN (writtenA t)) = 0 ∧ expP t = ⟨wholeN (writtenA t), 0, 0⟩) := by
  unfold expP
  by_cases h1 : checkP t = 0
  · rw [if_neg (fun h => h h1)]
    by_cases h2 : outE t = 0
    · rw [if_neg (fun h => h h2)]
      by_cases h3 : (faultA (writtenA t)).1 = 0
      · rw [if_neg (fun h => h h3)]
        by_cases h4 : checkP (wholeN (writtenA t)) = 0
        · rw [if_neg (fun h => h h4)]
          exact .inr ⟨h1, h2, h3, h4, rfl⟩
        · rw [if_pos h4]; exact .inl ⟨h4, rfl⟩
      · rw [if_pos h3]; exact .inl ⟨h3, rfl⟩
    · rw [if_pos h2]; exact .inl ⟨h2, rfl⟩
  · rw [if_pos h1]; exact .inl ⟨h1, rfl⟩
theorem stands_let {t u : Nd} (h : judgeP t (some u) = 0) (hu : u.kind ≠ 6) : t.kind ≠ 6 := by
  have := ((judge_iff t (some u)).1 h).2.2.2
  unfold standsP at this
  simp only [Bool.or_eq_true, bne_iff_ne, beq_iff_eq] at this
  rcases this with h | h
  · exact h
  · exact absurd h hu
end Go.Proofs.Ytbmkddmmclndcaa
/- AL3, plainly: a call that is no alias becomes that call with its arguments expanded, each by itself. -/
namespace Go.Proofs.Ytbmkddmmclndcaa
set_option linter.unusedVariables false
set_option linter.unusedSimpArgs false

theorem judge_parent {a b : Nd} (h : a.kind = b.kind) (t : Nd) : judgeP t (some a) = judgeP t (some b) := by
  unfold judgeP keyP standsP
  simp only [h]
theorem jdL_parent {a b : Nd} (h : a.kind = b.kind) : ∀ l : List Nd, jdL (some a) l → jdL (some b) l
  | [], _ => jdL_nil _
  | t :: r, hh => by
    rw [jdL_cons] at hh ⊢
    exact ⟨⟨by rw [← judge_parent h]; exact hh.1.1, hh.1.2⟩, jdL_parent h r hh.2⟩
/-- A node that may stand somewhere may stand by itself, without its Key. -/
theorem jd_free {t : Nd} {u : Option Nd} (h : jd1 u t) : jd1 none (keyN t ⟨#[]⟩) := by
  obtain ⟨h1, h2⟩ := h
  obtain ⟨h3, h4, h5, h6⟩ := (judge_iff t u).1 h1
  exact ⟨(judge_iff _ _).2 ⟨⟨h3.1, z64⟩, key_nil _, h5, rfl⟩, jdL_parent (a := t) (b := keyN t ⟨#[]⟩) rfl _ h2⟩
end Go.Proofs.Ytbmkddmmclndcaa
/- AL3, plainly: a let ahead of a program means what the program means in which its value is written. -/
namespace Go.Proofs.Ytbmkddmmclndcaa
set_option linter.unusedVariables false
set_option linter.unusedSimpArgs false

/-- Trees that differ in their places alone. -/
theorem stripL_map : ∀ l : List Nd, stripL l = l.map strip
  | [] => stripL_nil
  | t :: r => by rw [stripL_cons, stripL_map r]; rfl
theorem strip_place (t : Nd) (a : Int) : strip (placeN t a) = strip t := by
  have key : ∀ l : List Nd, stripL (placeL a l) = stripL l := by
    apply forest
    · rw [placeL_nil]
    · intro t r h1 h2
      rw [placeL_cons, stripL_cons, stripL_cons, h2]
      congr 1
      unfold strip placeN
      simp only [h1]
  unfold strip placeN
  simp only [key]
theorem strip_key (t : Nd) (y : ByteArray) : strip (keyN t y) = keyN (strip t) y := rfl
theorem strip_args (t : Nd) (l : List Nd) : strip (argsN t l) = ⟨t.kind, t.name, t.num, t.int_, t.key, stripL l, 0⟩ := rfl
theorem strip_made (a : Int) (nm : ByteArray) (l : List Nd) : strip (madeN a nm l) = madeN 0 nm (stripL l) := rfl
theorem strip_ix (l : List Nd) (k : Nat) : strip (ix l k) = ix (stripL l) k := by
  unfold ix
  rw [stripL_map, List.getD_eq_getElem?_getD, List.getD_eq_getElem?_getD, List.getElem?_map]
  cases l[k]? with
  | none => show strip noneN = noneN; unfold strip noneN; rw [stripL_nil]
  | some x => rfl
theorem strip_drop (l : List Nd) (k : Nat) : stripL (l.drop k) = (stripL l).drop k := by rw [stripL_map, stripL_map, List.map_drop]
theorem strip_take (l : List Nd) (k : Nat) : stripL (l.take k) = (stripL l).take k := by rw [stripL_map, stripL_map, List.map_take]
theorem strip_cnt (t : Nd) : cnt (strip t) = cnt t := by
  have key : ∀ l : List Nd, cntL (stripL l) = cntL l := by
    apply forest
    · rw [stripL_nil]
    · intro t r h1 h2
      rw [stripL_cons, cntL_cons, cntL_cons, h2]
      have : cnt (strip t) = cnt t := by unfold cnt; show 1 + cntL (stripL t.args) = _; rw [h1]
      rw [this]
  unfold cnt
  show 1 + cntL (stripL t.args) = _
  rw [key]
theorem strip_dep (t : Nd) : dep (strip t) = dep t := by
  have key : ∀ l : List Nd, depL (stripL l) = depL l := by
    apply forest
    · rw [stripL_nil]
    · intro t r h1 h2
      rw [stripL_cons, depL_cons, depL_cons, h2]
      have : dep (strip t) = dep t := by unfold dep; show depL (stripL t.args) + 1 = _; rw [h1]
      rw [this]
  unfold dep
  show depL (stripL t.args) + 1 = _
  rw [key]
theorem strip_bind {l : List Nd} : bindsP (stripL l) = bindsP l := by
  match l with
  | [] => rw [stripL_nil]
  | [v] => rw [stripL_cons, stripL_nil]; rfl
  | [v, r] => rw [stripL_cons, stripL_cons, stripL_nil]; rfl
  | v :: r :: x :: l => rw [stripL_cons, stripL_cons, stripL_cons]; rfl
theorem strip_judge (t : Nd) (u : Option Nd) : judgeP (strip t) (u.map strip) = judgeP t u := by
  have hk : kindP (strip t) = kindP t := by
    unfold kindP
    have h1 : (strip t).args = stripL t.args := rfl
    rw [h1, strip_bind, stripL_len]
    rfl
  have hy : keyP (strip t).key (u.map strip) = keyP t.key u := by cases u <;> rfl
  have hs : standsP (strip t).kind (u.map strip) = standsP t.kind u := by cases u <;> rfl
  unfold judgeP
  rw [hk, hy, hs]
  rfl
/-- What each argument given is, whatever the places. -/
theorem strip_givenL (r : Rw) : ∀ (l : List Nd) (next : Nat) (keyed : Bool) (taken : List Nat), (∃ tk, givenL r l next keyed taken = .ok tk ∧ givenL r (stripL l) next keyed taken = .ok tk) ∨ (∃ e a b, givenL r l next keyed taken = .error (e, a) ∧ givenL r (stripL l) next keyed taken = .error (e, b))
  | [], next, keyed, taken => .inl ⟨taken, rfl, by rw [stripL_nil]; rfl⟩
  | x :: l, next, keyed, taken => by
    have eqx : ∀ (x : Nd) (l : List Nd), givenL r (x :: l) next keyed taken = if x.key.size != 0 then (match placeI r.args x.key with | none => .error (132, x.at_) | some k => if taken.contains k then .error (132, x.at_) else givenL r l next true (taken ++ [k])) else if keyed then .error (132, x.at_) else if r.args.length ≤ next then .error (131, x.at_) else givenL r l (next + 1) false (taken ++ [next]) := fun x l => by cases x; rfl
    have hkey : (strip x).key = x.key := rfl
    rw [stripL_cons, eqx, eqx, hkey]
    by_cases c1 : (x.key.size != 0) = true
    · rw [if_pos c1, if_pos c1]
      cases hp : placeI r.args x.key with
      | none => exact .inr ⟨132, _, _, rfl, rfl⟩
      | some k =>
        simp only
        by_cases c2 : taken.contains k = true
        · rw [if_pos c2, if_pos c2]; exact .inr ⟨132, _, _, rfl, rfl⟩
        · rw [if_neg c2, if_neg c2]; exact strip_givenL r l _ _ _
    · rw [if_neg c1, if_neg c1]
      by_cases c2 : keyed = true
      · rw [if_pos c2, if_pos c2]; exact .inr ⟨132, _, _, rfl, rfl⟩
      · rw [if_neg c2, if_neg c2]
        by_cases c3 : r.args.length ≤ next
        · rw [if_pos c3, if_pos c3]; exact .inr ⟨131, _, _, rfl, rfl⟩
        · rw [if_neg c3, if_neg c3]; exact strip_givenL r l _ _ _
theorem strip_givenP (r : Rw) (t : Nd) : (∃ tk, givenP r t = .ok tk ∧ givenP r (strip t) = .ok tk) ∨ (∃ e a b, givenP r t = .error (e, a) ∧ givenP r (strip t) = .error (e, b)) := by
  unfold givenP
  have ha : (strip t).args = stripL t.args := rfl
  rw [ha]
  rcases strip_givenL r t.args 0 false [] with ⟨tk, h1, h2⟩ | ⟨e, a, b, h1, h2⟩
  · rw [h1, h2]
    simp only
    by_cases c : tk.contains 0 = true
    · rw [if_pos c, if_pos c]; exact .inl ⟨tk, rfl, rfl⟩
    · rw [if_neg c, if_neg c]; exact .inr ⟨131, _, _, rfl, rfl⟩
  · rw [h1, h2]
    exact .inr ⟨e, a, b, rfl, rfl⟩
theorem strip_err (t : Nd) : (errA (strip t)).1 = (errA t).1 := by
  unfold errA
  have : findA (strip t) = findA t := rfl
  rw [this]
  cases findA t with
  | none => rfl
  | some r =>
    rcases strip_givenP r t with ⟨tk, h1, h2⟩ | ⟨e, a, b, h1, h2⟩
    · simp only [h1, h2]
    · simp only [h1, h2]
theorem strip_faultL : ∀ l : List Nd, (faultAL (stripL l)).1 = (faultAL l).1 := by
  apply forest (P := fun l => (faultAL (stripL l)).1 = (faultAL l).1)
  · rw [stripL_nil]
  · intro t r h1 h2
    have hf : (faultA (strip t)).1 = (faultA t).1 := by
      unfold faultA
      have ha : (strip t).args = stripL t.args := rfl
      rw [ha]
      by_cases c : (errA t).1 ≠ 0
      · rw [if_pos c, if_pos (by rw [strip_err]; exact c), strip_err]
      · rw [if_neg c, if_neg (by rw [strip_err]; exact c), h1]
    rw [stripL_cons, faultAL_cons, faultAL_cons]
    by_cases c : (faultA t).1 ≠ 0
    · rw [if_pos c, if_pos (by rw [hf]; exact c), hf]
    · rw [if_neg c, if_neg (by rw [hf]; exact c), h2]
theorem strip_fault (t : Nd) : (faultA (strip t)).1 = (faultA t).1 := by
  have := strip_faultL [t]
  rw [stripL_cons, stripL_nil, faultAL_cons, faultAL_cons, faultAL_nil] at this
  by_cases c : (faultA t).1 ≠ 0
  · rw [if_pos c] at this
    by_cases d : (faultA (strip t)).1 ≠ 0
    · rw [if_pos d] at this; exact this
    · rw [if_neg d] at this; exact absurd this.symm c
  · rw [if_neg c] at this
    by_cases d : (faultA (strip t)).1 ≠ 0
    · rw [if_pos d] at this; exact absurd this d
    · rw [Decidable.not_not.1 c, Decidable.not_not.1 d]
theorem strip_rate (a b : Int) (r : Nd) : strip (rateA a r) = strip (rateA b (strip r)) := by
  unfold rateA
  have hk : (strip r).kind = r.kind := rfl
  rw [hk]
  by_cases c : (r.kind == 2) = true
  · rw [if_pos c, if_pos c, strip_made, strip_made, stripL_cons, stripL_cons]
    rfl
  · rw [if_neg c, if_neg c]
    by_cases d : (r.kind == 3) = true
    · rw [if_pos d, if_pos d, strip_made, strip_made, stripL_cons, stripL_cons]
      rfl
    · rw [if_neg d, if_neg d]
      simp only [strip_made, stripL_cons, stripL_nil, strip_place]
      have hss : strip (strip r) = strip r := by
        have key : ∀ l : List Nd, stripL (stripL l) = stripL l := by
          apply forest
          · rw [stripL_nil, stripL_nil]
          · intro t r h1 h2
            rw [stripL_cons, stripL_cons, h2]
            congr 1
            unfold strip
            simp only [h1]
        unfold strip
        simp only [key]
      rw [hss]
theorem strip_dec (a : Int) (m w : Nd) : strip (decA a m w) = decA 0 (strip m) (strip w) := by
  unfold decA
  simp only [strip_made, stripL_cons, stripL_nil]
theorem strip_bec (nm : ByteArray) (a b : Int) {l l' : List Nd} (h : stripL l = stripL l') : strip (becA nm a l) = strip (becA nm b l') := by
  have hx : ∀ k, strip (ix l k) = strip (ix l' k) := fun k => by rw [strip_ix, strip_ix, h]
  have hd : ∀ k, stripL (l.drop k) = stripL (l'.drop k) := fun k => by rw [strip_drop, strip_drop, h]
  have hdt : ∀ k m, stripL ((l.drop k).take m) = stripL ((l'.drop k).take m) := fun k m => by rw [strip_take, strip_take, hd]
  have hr : strip (rateA a (ix l 0)) = strip (rateA b (ix l' 0)) := by
    rw [strip_rate a 0, hx, ← strip_rate b 0]
  have hi : ∀ {c : Prop} [Decidable c] {x y x' y' : Nd}, strip x = strip x' → strip y = strip y' → strip (if c then x else y) = strip (if c then x' else y') := fun {c} _ {x y x' y'} h1 h2 => by
    by_cases h : c
    · rw [if_pos h, if_pos h]; exact h1
    · rw [if_neg h, if_neg h]; exact h2
  unfold becA
  refine hi hr ?_
  iterate 15 (refine hi (by simp only [strip_made, strip_dec, stripL_cons, stripL_nil, strip_place, hr, hx, hd, hdt]) ?_)
  simp only [strip_made, strip_dec, stripL_cons, stripL_nil, strip_place, hr, hx, hd, hdt]
theorem strip_set (l : List Nd) (k : Nat) (x : Nd) : stripL (l.set k x) = (stripL l).set k (strip x) := by rw [stripL_map, stripL_map, List.map_set]
theorem strip_fill : ∀ (w : List Nat) (l l' a a' : List Nd), stripL l = stripL l' → stripL a = stripL a' → stripL (fillA w l a) = stripL (fillA w l' a')
  | [], l, l', a, a', _, h => by simpa [fillA] using h
  | k :: w, [], [], a, a', _, h => by simpa [fillA] using h
  | k :: w, [], y :: l', a, a', h, _ => by rw [stripL_nil, stripL_cons] at h; cases h
  | k :: w, x :: l, [], a, a', h, _ => by rw [stripL_nil, stripL_cons] at h; cases h
  | k :: w, x :: l, y :: l', a, a', h, ha => by
    rw [stripL_cons, stripL_cons] at h
    obtain ⟨h1, h2⟩ := List.cons.inj h
    rw [fillA, fillA]
    refine strip_fill w l l' _ _ h2 ?_
    rw [strip_set, strip_set, ha, strip_key, strip_key, h1]
theorem strip_wholeL : ∀ l : List Nd, stripL (wholeL l) = stripL (wholeL (stripL l)) := by
  apply forest (P := fun l => stripL (wholeL l) = stripL (wholeL (stripL l)))
  · rw [stripL_nil]
  · intro t r h1 h2
    rw [stripL_cons, wholeL_cons, wholeL_cons, stripL_cons, stripL_cons, h2]
    congr 1
    unfold wholeN oneA
    have hf : findA (strip t) = findA t := rfl
    have ha : (strip t).args = stripL t.args := rfl
    rw [hf, ha]
    cases findA t with
    | none =>
      simp only
      rw [strip_args, strip_args, h1]; rfl
    | some rw_ =>
      simp only
      rw [strip_key, strip_key]
      have hv : stripL (rw_.vals.map fun v => placeN v t.at_) = stripL (rw_.vals.map fun v => placeN v (strip t).at_) := by
        rw [stripL_map, stripL_map, List.map_map, List.map_map]
        exact List.map_congr_left fun v _ => by show strip (placeN v _) = strip (placeN v _); rw [strip_place, strip_place]
      rcases strip_givenP rw_ t with ⟨tk, g1, g2⟩ | ⟨e, x, y, g1, g2⟩
      · simp only [g1, g2]
        rw [strip_bec _ t.at_ (strip t).at_ (strip_fill tk _ _ _ _ h1 hv)]; rfl
      · simp only [g1, g2]
        rw [strip_bec _ t.at_ (strip t).at_ (strip_fill [] _ _ _ _ h1 hv)]; rfl
theorem strip_whole {a b : Nd} (h : strip a = strip b) : strip (wholeN a) = strip (wholeN b) := by
  have key : ∀ t : Nd, strip (wholeN t) = strip (wholeN (strip t)) := fun t => by
    have := strip_wholeL [t]
    rw [wholeL_cons, wholeL_nil, stripL_cons, stripL_nil, stripL_cons, stripL_nil, wholeL_cons, wholeL_nil, stripL_cons, stripL_nil] at this
    exact (List.cons.inj this).1
  rw [key a, key b, h]
theorem strip_eqL : ∀ (l m : List Nd), stripL l = stripL m → eqL l m = true := by
  apply forest (P := fun l => ∀ m, stripL l = stripL m → eqL l m = true)
  · intro m h
    cases m with
    | nil => exact eqL_nil
    | cons x m => rw [stripL_nil, stripL_cons] at h; cases h
  · intro t r h1 h2 m h
    cases m with
    | nil => rw [stripL_nil, stripL_cons] at h; cases h
    | cons x m =>
      rw [stripL_cons, stripL_cons] at h
      obtain ⟨e1, e2⟩ := List.cons.inj h
      rw [eqL_cons, h2 m e2, Bool.and_true]
      unfold strip at e1
      simp only [Nd.mk.injEq] at e1
      obtain ⟨k1, k2, k3, k4, k5, k6, -⟩ := e1
      unfold eqT
      rw [k1, k2, k3, k4, k5, h1 _ k6]
      simp
theorem strip_eq {a b : Nd} (h : strip a = strip b) : eqT a b = true := by
  have := strip_eqL [a] [b] (by rw [stripL_cons, stripL_cons, h])
  rw [eqL_cons, eqL_nil, Bool.and_true] at this
  exact this

end Go.Proofs.Ytbmkddmmclndcaa
/- AL3, plainly: a let and its value written. -/
namespace Go.Proofs.Ytbmkddmmclndcaa
set_option linter.unusedVariables false
set_option linter.unusedSimpArgs false

theorem strip_wkL : ∀ (l : List Nd) (d : Int) (u : Option Nd) (s : Int), wkL gCheck (stripL l) d (u.map strip) s = wkL gCheck l d u s := by
  apply forest (P := fun l => ∀ (d : Int) (u : Option Nd) (s : Int), wkL gCheck (stripL l) d (u.map strip) s = wkL gCheck l d u s)
  · intro d u s; rw [stripL_nil, wkL_nil, wkL_nil]
  · intro t r h1 h2 d u s
    have hw : ∀ s, wk gCheck (strip t) d (u.map strip) s = wk gCheck t d u s := fun s => by
      unfold wk
      have hg : gCheck s (strip t) d (u.map strip) = gCheck s t d u := by unfold gCheck; rw [strip_judge]
      have ha : (strip t).args = stripL t.args := rfl
      have := h1 (d + 1) (some t) (gCheck s t d u).2
      rw [Option.map_some] at this
      rw [hg, ha, this]
    rw [stripL_cons, wkL_cons, wkL_cons, hw, h2]
theorem strip_checkP (t : Nd) : checkP (strip t) = checkP t := by
  have hm : measP (strip t) = measP t := by unfold measP; rw [strip_dep, strip_cnt]
  have hw : wk gCheck (strip t) 1 none 0 = wk gCheck t 1 none 0 := by
    have := strip_wkL [t] 1 none 0
    rw [stripL_cons, stripL_nil, wkL_one, wkL_one] at this
    exact this
  unfold checkP
  rw [hm, hw]
section
variable (nm : ByteArray) (v : Nd)
/-- A tree in which each name is a node. -/
def nmOne (t : Nd) (l : List Nd) : Nd := if (t.kind == 4 && sameB t.name nm) = true then keyN v t.key else argsN t l
def nmL : List Nd → List Nd
  | [] => []
  | ⟨k, n, x, i, y, l, a⟩ :: r => nmOne nm v ⟨k, n, x, i, y, l, a⟩ (nmL l) :: nmL r
def nmN (t : Nd) : Nd := nmOne nm v t (nmL nm v t.args)
theorem nmL_nil : nmL nm v [] = [] := by simp [nmL]
theorem nmL_cons (t : Nd) (r : List Nd) : nmL nm v (t :: r) = nmN nm v t :: nmL nm v r := by cases t; simp [nmL, nmN]
theorem nmL_map : ∀ l : List Nd, nmL nm v l = l.map (nmN nm v)
  | [] => nmL_nil nm v
  | t :: r => by rw [nmL_cons, nmL_map r]; rfl
theorem nmL_len (l : List Nd) : (nmL nm v l).length = l.length := by rw [nmL_map, List.length_map]
theorem look_one (x : ByteArray) : lookE [(nm, v)] x = if sameB x nm then some v else none := by
  unfold lookE
  by_cases c : sameB x nm = true
  · rw [if_pos c, List.find?_cons_of_pos (by simpa using sameB_iff.2 (sameB_iff.1 c).symm)]; rfl
  · rw [if_neg c, List.find?_cons_of_neg (by simpa using fun h => c (sameB_iff.2 (sameB_iff.1 h).symm))]; rfl
theorem strip_namedL : ∀ l : List Nd, stripL (wrL [(nm, v)] l) = stripL (nmL nm v l) := by
  apply forest (P := fun l => stripL (wrL [(nm, v)] l) = stripL (nmL nm v l))
  · rw [wrL_nil, nmL_nil]
  · intro t r h1 h2
    rw [wrL_cons, nmL_cons, stripL_cons, stripL_cons, h2]
    congr 1
    unfold wrN wrOne nmN nmOne
    rw [look_one]
    by_cases c : (t.kind == 4) = true
    · rw [if_pos c, c, Bool.true_and]
      by_cases d : sameB t.name nm = true
      · rw [if_pos d, if_pos d]
        simp only
        rw [strip_key, strip_key, strip_place]
      · rw [if_neg d, if_neg d]
        simp only
        rw [strip_args, strip_args, h1]
    · rw [if_neg c, if_neg (by intro h; rw [Bool.and_eq_true] at h; exact c h.1), strip_args, strip_args, h1]
theorem strip_named (t : Nd) : strip (wrN [(nm, v)] t) = strip (nmN nm v t) := by
  have := strip_namedL nm v [t]
  rw [wrL_cons, wrL_nil, nmL_cons, nmL_nil, stripL_cons, stripL_nil, stripL_cons, stripL_nil] at this
  exact (List.cons.inj this).1
theorem kind_args {t : Nd} {l : List Nd} (hk : t.kind ≠ 6) (hl : l.length = t.args.length) : kindP (argsN t l) = kindP t := by
  unfold kindP
  have h1 : (argsN t l).kind = t.kind := rfl
  have h2 : (argsN t l).args.length = t.args.length := hl
  rw [h1, h2]
  by_cases a1 : t.kind = 1
  · rw [if_pos a1, if_pos a1]; rfl
  · rw [if_neg a1, if_neg a1]
    by_cases a2 : t.kind = 2
    · rw [if_pos a2, if_pos a2]; rfl
    · rw [if_neg a2, if_neg a2]
      by_cases a3 : t.kind = 3
      · rw [if_pos a3, if_pos a3]; rfl
      · rw [if_neg a3, if_neg a3]
        by_cases a4 : t.kind = 4
        · rw [if_pos a4, if_pos a4]; rfl
        · rw [if_neg a4, if_neg a4]
          by_cases a5 : t.kind = 5
          · rw [if_pos a5, if_pos a5]; rfl
          · rw [if_neg a5, if_neg a5, if_neg hk, if_neg hk]
variable {nm v}
theorem jd_namedOne {t : Nd} {u : Option Nd} {uv : Option Nd} (hv : jd1 uv v) (hvk : v.kind ≠ 6) (hk : t.kind ≠ 6) (h : judgeP t u = 0) (hl : jdL (some t) (nmL nm v t.args)) : jd1 u (nmN nm v t) := by
  obtain ⟨h3, h4, h5, h6⟩ := (judge_iff t u).1 h
  unfold nmN nmOne
  by_cases c : (t.kind == 4 && sameB t.name nm) = true
  · rw [if_pos c]
    obtain ⟨g3, g4, g5, g6⟩ := (judge_iff v uv).1 hv.1
    exact ⟨(judge_iff _ _).2 ⟨⟨g3.1, h3.2⟩, h4, g5, stands_no hvk _⟩, jdL_parent (a := v) (b := keyN v t.key) rfl _ hv.2⟩
  · rw [if_neg c]
    exact ⟨(judge_iff _ _).2 ⟨h3, h4, (kind_args hk (nmL_len nm v t.args)).trans h5, h6⟩, jdL_parent (a := t) (b := argsN t _) rfl _ hl⟩
theorem jd_namedL {uv : Option Nd} (hv : jd1 uv v) (hvk : v.kind ≠ 6) : ∀ (l : List Nd) (a : Nd), a.kind ≠ 6 → jdL (some a) l → jdL (some a) (nmL nm v l) := by
  apply forest (P := fun l => ∀ (a : Nd), a.kind ≠ 6 → jdL (some a) l → jdL (some a) (nmL nm v l))
  · intro a _ _
    rw [nmL_nil]; exact jdL_nil _
  · intro t r h1 h2 a ha h
    rw [jdL_cons] at h
    rw [nmL_cons, jdL_cons]
    have hk := stands_let h.1.1 ha
    exact ⟨jd_namedOne hv hvk hk h.1.1 (h1 t hk h.1.2), h2 a ha h.2⟩
theorem jd_named {t : Nd} {u uv : Option Nd} (hv : jd1 uv v) (hvk : v.kind ≠ 6) (hk : t.kind ≠ 6) (h : jd1 u t) : jd1 u (nmN nm v t) := jd_namedOne hv hvk hk h.1 (jd_namedL hv hvk _ t hk h.2)
end
/-- A let ahead of a program. -/
def letN (nm : ByteArray) (v p : Nd) : Nd := ⟨6, nm, 0, 0, ⟨#[]⟩, [v, p], 0⟩
theorem let_written {nm : ByteArray} {v p : Nd} (hp : p.kind = 1) : writtenA (letN nm v p) = wrN [(nm, v)] p := by
  obtain ⟨h1, h2, -⟩ := lets_step (t := letN nm v p) rfl rfl
  have e0 : ix (letN nm v p).args 0 = v := rfl
  have e1 : ix (letN nm v p).args 1 = p := rfl
  have hn : letsA p = ([], p) := lets_end (by rw [hp]; decide)
  rw [e0, e1, hn] at h1
  rw [e1, hn] at h2
  unfold writtenA
  rw [h1, h2]
  show wrN (envA [((letN nm v p).name, v)]) p = _
  have : envA [(nm, v)] = [(nm, v)] := by
    show [(nm, wrN [] v)] = _
    rw [wr_id]
  rw [show (letN nm v p).name = nm from rfl, this]
theorem lets_exp {nm : ByteArray} {v p : Nd} (hck : checkP (letN nm v p) = 0) (hp : p.kind = 1) :
    ((expP (letN nm v p)).err = 81 ∨ (expP (nmN nm v p)).err = 81 ∨ (expP (letN nm v p)).err = 82 ∨ (expP (nmN nm v p)).err = 82) ∨ ((expP (letN nm v p)).err = (expP (nmN nm v p)).err ∧ eqT (expP (letN nm v p)).tree (expP (nmN nm v p)).tree = true) := by
  have hs := strip_named nm v p
  have hj := ((check_iff _).1 hck).2
  have hb := binds_two (kind_let ((judge_iff _ _).1 hj.1).2.2.1 (show (letN nm v p).kind = 6 from rfl))
  obtain ⟨v', p', hl, hvk, -⟩ := hb
  have hl : [v, p] = [v', p'] := hl
  simp only [List.cons.injEq, and_true] at hl
  obtain ⟨rfl, rfl⟩ := hl
  have hjl : jdL (some (letN nm v p)) [v, p] := hj.2
  rw [jdL_cons, jdL_cons] at hjl
  have hpk : p.kind ≠ 6 := by omega
  have hpkey : p.key = ⟨#[]⟩ := by
    obtain ⟨v', p', hl, -, -, -, hk⟩ := binds_two (kind_let ((judge_iff _ _).1 hj.1).2.2.1 (show (letN nm v p).kind = 6 from rfl))
    have hl : [v, p] = [v', p'] := hl
    simp only [List.cons.injEq, and_true] at hl
    obtain ⟨rfl, rfl⟩ := hl
    exact hk
  have hjp : jd1 none p := by
    have := jd_free hjl.2.1
    have e : keyN p ⟨#[]⟩ = p := by rw [← hpkey]; cases p; rfl
    rw [e] at this
    exact this
  have hjn : jd1 none (nmN nm v p) := jd_named hjl.1 hvk hpk hjp
  have hnk : (nmN nm v p).kind = 1 := by
    unfold nmN nmOne
    rw [if_neg (by rw [hp]; simp)]
    exact hp
  have hd : dep (nmN nm v p) = dep (writtenA (letN nm v p)) := by rw [let_written hp, ← strip_dep, ← hs, strip_dep]
  have hc : cnt (nmN nm v p) = cnt (writtenA (letN nm v p)) := by rw [let_written hp, ← strip_cnt, ← hs, strip_cnt]
  by_cases hm : measP (nmN nm v p) = 0
  · right
    obtain ⟨m1, m2⟩ := (meas_iff _).1 hm
    have hcn : checkP (nmN nm v p) = 0 := (check_iff _).2 ⟨hm, hjn⟩
    have hon := outE_of (t := nmN nm v p) (by omega) m1 m2
    have hol : outE (letN nm v p) = 0 := by
      unfold outE
      rw [← hd, ← hc, if_neg (by omega), if_neg (by omega)]
    have hf : (faultA (writtenA (letN nm v p))).1 = (faultA (nmN nm v p)).1 := by rw [let_written hp, ← strip_fault, hs, strip_fault]
    have hw : strip (wholeN (writtenA (letN nm v p))) = strip (wholeN (nmN nm v p)) := by rw [let_written hp]; exact strip_whole hs
    have hcw : checkP (wholeN (writtenA (letN nm v p))) = checkP (wholeN (nmN nm v p)) := by rw [← strip_checkP, hw, strip_checkP]
    have e0 : eqT noneN noneN = true := strip_eq rfl
    have hwn : writtenA (nmN nm v p) = nmN nm v p := written_id (by omega)
    by_cases c1 : (faultA (nmN nm v p)).1 = 0
    · by_cases c2 : checkP (wholeN (nmN nm v p)) = 0
      · have hE : expP (letN nm v p) = ⟨wholeN (writtenA (letN nm v p)), 0, 0⟩ := by
          unfold expP
          rw [if_neg (fun h => h hck), if_neg (fun h => h hol), if_neg (fun h => h (hf.trans c1)), if_neg (fun h => h (hcw.trans c2))]
        have hF : expP (nmN nm v p) = ⟨wholeN (nmN nm v p), 0, 0⟩ := by
          unfold expP
          rw [hwn, if_neg (fun h => h hcn), if_neg (fun h => h hon), if_neg (fun h => h c1), if_neg (fun h => h c2)]
        rw [hE, hF]
        exact ⟨rfl, strip_eq hw⟩
      · have hE : expP (letN nm v p) = ⟨noneN, checkP (wholeN (writtenA (letN nm v p))), (letN nm v p).at_⟩ := by
          unfold expP
          rw [if_neg (fun h => h hck), if_neg (fun h => h hol), if_neg (fun h => h (hf.trans c1)), if_pos (fun h => c2 (hcw.symm.trans h))]
        have hF : expP (nmN nm v p) = ⟨noneN, checkP (wholeN (nmN nm v p)), (nmN nm v p).at_⟩ := by
          unfold expP
          rw [hwn, if_neg (fun h => h hcn), if_neg (fun h => h hon), if_neg (fun h => h c1), if_pos c2]
        rw [hE, hF]
        exact ⟨hcw, e0⟩
    · have hE : expP (letN nm v p) = ⟨noneN, (faultA (writtenA (letN nm v p))).1, (faultA (writtenA (letN nm v p))).2⟩ := by
        unfold expP
        rw [if_neg (fun h => h hck), if_neg (fun h => h hol), if_pos (fun h => c1 (hf.symm.trans h))]
      have hF : expP (nmN nm v p) = ⟨noneN, (faultA (nmN nm v p)).1, (faultA (nmN nm v p)).2⟩ := by
        unfold expP
        rw [hwn, if_neg (fun h => h hcn), if_neg (fun h => h hon), if_pos c1]
      rw [hE, hF]
      exact ⟨hf, e0⟩
  · left
    have hcm : checkP (nmN nm v p) = measP (nmN nm v p) := by unfold checkP; rw [if_neg hm]
    have he : (expP (nmN nm v p)).err = measP (nmN nm v p) := by
      unfold expP
      rw [if_pos (by rw [hcm]; exact hm)]
      exact hcm
    rw [he]
    unfold measP at hm ⊢
    by_cases c1 : 64 < dep (nmN nm v p)
    · rw [if_pos c1]; exact .inr (.inl rfl)
    · rw [if_neg c1] at hm ⊢
      by_cases c2 : 4096 < cnt (nmN nm v p)
      · rw [if_pos c2]; exact .inr (.inr (.inr rfl))
      · rw [if_neg c2] at hm; exact absurd rfl hm

end Go.Proofs.Ytbmkddmmclndcaa
/- Rows whose nodes lead to rows of an earlier world as well. -/
namespace Go.Proofs.Ytbmkddmmclndcaa
open Go.RowKit
set_option linter.unusedVariables false
set_option linter.unusedSimpArgs false

/-- Heads below a bound. -/
def lowH (V0 : Nat) : Heads := fun p n c => n = 0 ∨ ∀ b o, p = some ⟨b, o, none⟩ → b < V0
/-- Heads below V0 or from C on, below S, not in one block. -/
def midH (V0 C S : Nat) (g : Option Nat) : Heads := fun p n c => n = 0 ∨ ∀ b o, p = some ⟨b, o, none⟩ → b < S ∧ (b < V0 ∨ C ≤ b) ∧ some b ≠ g
theorem KA_low {w : World} {Q : Heads} : ∀ (l : List Nd) (b o : Nat), KA w Q b o l → KA w (lowH w.heap.size) b o l := by
  apply forest (P := fun l => ∀ (b o : Nat), KA w Q b o l → KA w (lowH w.heap.size) b o l)
  · intro b o _
    exact KA_nil _ _ _ _
  · intro t r h1 h2 b o h
    obtain ⟨⟨e0, e1, e2, e3, e4, e6, sv, e5, p, c, rfl, hq, hk⟩, hr⟩ := KA_cons.1 h
    refine KA_cons.2 ⟨⟨e0, e1, e2, e3, e4, e6, _, e5, p, c, rfl, ?_, ?_⟩, h2 _ _ hr⟩
    · by_cases h0 : t.args = []
      · left; rw [h0]; rfl
      · rcases hk with hk | ⟨b', o', hp, hk⟩
        · exact absurd hk h0
        · right
          intro b2 o2 hp2
          rw [hp] at hp2
          simp only [Option.some.injEq, Addr.mk.injEq] at hp2
          obtain ⟨rfl, -, -⟩ := hp2
          obtain ⟨y, ys, hy⟩ := List.exists_cons_of_ne_nil h0
          rw [hy, KA_cons] at hk
          exact mcell_lt hk.1.1
    · rcases hk with hk | ⟨b', o', hp, hk⟩
      · exact .inl hk
      · exact .inr ⟨b', o', hp, h1 _ _ hk⟩
theorem Kids.low {w : World} {Q : Heads} {v : Value} {l : List Nd} (h : Kids w Q v l) : Kids w (lowH w.heap.size) v l := by
  obtain ⟨p, c, rfl, hq, hk⟩ := h
  refine ⟨p, c, rfl, ?_, ?_⟩
  · by_cases h0 : l = []
    · left; rw [h0]; rfl
    · rcases hk with hk | ⟨b', o', hp, hk⟩
      · exact absurd hk h0
      · right
        intro b2 o2 hp2
        rw [hp] at hp2
        simp only [Option.some.injEq, Addr.mk.injEq] at hp2
        obtain ⟨rfl, -, -⟩ := hp2
        obtain ⟨y, ys, hy⟩ := List.exists_cons_of_ne_nil h0
        rw [hy, KA_cons] at hk
        exact mcell_lt hk.1.1
  · rcases hk with hk | ⟨b', o', hp, hk⟩
    · exact .inl hk
    · exact .inr ⟨b', o', hp, KA_low _ _ _ hk⟩
theorem midH.mono {V0 C S S' : Nat} {g : Option Nat} (h : S ≤ S') (p : Option Addr) (n c : Nat) : midH V0 C S g p n c → midH V0 C S' g p n c := fun k => k.imp id fun k b o e => ⟨by have := (k b o e).1; omega, (k b o e).2⟩
def RowM (w : World) (V0 C : Nat) (v : Value) (l : List Nd) (R : List (Nd × Value)) : Prop :=
  R.map (fun r => r.1) = l ∧ w.ownsRow C 26 7 v l.length (cellsN R) ∧ ∀ r ∈ R, Kids w (midH V0 C w.heap.size v.ownBlock) r.2 r.1.args
theorem RowM.nil (w : World) (V0 C : Nat) : RowM w V0 C (.slice none 0 0) [] [] := ⟨rfl, World.ownsRow_nil w C _ 7, fun r h => by cases h⟩
theorem RowM.below {w w' : World} {V0 C : Nat} {v : Value} {l : List Nd} {R : List (Nd × Value)} (h : RowM w V0 C v l R) (k : Below w.heap.size w w') : RowM w' V0 C v l R := by
  refine ⟨h.1, World.ownsRow.kept h.2.1 (row := none) ⟨k.os, k.tape, k.output, k.size, fun j hj _ => k.block j hj⟩ ?_, fun r hr => ((h.2.2 r hr).below k).weak (midH.mono k.size)⟩
  cases v.ownBlock <;> simp
theorem RowM.push {w w1 w2 : World} {V0 C : Nat} {v : Value} {l : List Nd} {R : List (Nd × Value)} {t : Nd} {s : Value} {g cap : Nat} (h : RowM w V0 C v l R) (hb : Below w.heap.size w w1) (hs : Kids w (midH V0 C w.heap.size v.ownBlock) s t.args)
    (hg : w1.grownBy w2 v.ownBlock) (hat : v.ownBlock = some g ∨ g = w1.heap.size) (hown : w2.ownsRow C 26 7 (.slice (some ⟨g, 0, none⟩) (l.length + 1) cap) (l.length + 1) (cellsN R ++ nodeCells t s)) :
    RowM w2 V0 C (.slice (some ⟨g, 0, none⟩) (l.length + 1) cap) (l ++ [t]) (R ++ [(t, s)]) := by
  have key : ∀ (x : Value) (m : List Nd), Kids w (midH V0 C w.heap.size v.ownBlock) x m → Kids w2 (midH V0 C w2.heap.size (some g)) x m := fun x m hx => by
    have h1 := hx.below hb
    have h2 : Kids w2 (midH V0 C w.heap.size v.ownBlock) x m := h1.keepN fun p n c b o j u hn hq hp hj => by
      rcases hq with hq | hq
      · omega
      · have hq' := hq b o hp
        rw [World.cell?_of_block (w := w1) (hg.block b (by have := hb.size; omega) hq'.2.2)]
        exact hj
    refine h2.weak fun p n c hq => hq.imp id fun hq b o hp => ?_
    have hq' := hq b o hp
    refine ⟨by have := hb.size; have := hg.size; omega, hq'.2.1, fun e => ?_⟩
    rcases hat with hat | hat
    · exact hq'.2.2 (by rw [hat]; exact e)
    · have : b = g := Option.some.inj e
      have := hb.size
      omega
  refine ⟨by rw [List.map_append, h.1]; rfl, by rw [List.length_append, cellsN_snoc]; exact hown, fun r hr => ?_⟩
  rcases List.mem_append.1 hr with hr | hr
  · exact key _ _ (h.2.2 r hr)
  · simp at hr
    subst hr
    exact key _ _ hs
theorem RowM.kids {w : World} {V0 C : Nat} {v : Value} {l : List Nd} {R : List (Nd × Value)} (h : RowM w V0 C v l R) : Kids w (midH V0 C w.heap.size none) v l := by
  obtain ⟨hR, ⟨hl, ho⟩, hk⟩ := h
  rcases ho with ⟨hv, hn⟩ | ⟨g, cap, cur, hv, hB, hg, hc1, hc2, hsz, htk⟩
  · have : l = [] := List.eq_nil_of_length_eq_zero hn
    subst this
    exact ⟨none, 0, hv, .inl rfl, .inl rfl⟩
  · have hRl : R.length = l.length := by rw [← hR]; simp
    refine ⟨some ⟨g, 0, none⟩, cap, hv, .inr fun b o e => ?_, .inr ⟨g, 0, rfl, KA_of fun i hi => ?_⟩⟩
    · cases e
      exact ⟨hlt hg, .inr hB, by simp⟩
    · have hi' : i < R.length := by omega
      have he : l[i] = R[i].1 := by
        have := List.getElem_map (fun r : Nd × Value => r.1) (l := R) (i := i) (h := by simpa using hi')
        rw [← this]
        simp [hR]
      have key : ∀ k, k < 7 → w.cell? ⟨g, 0 + i * 7 + k, none⟩ = (nodeCells R[i].1 R[i].2)[k]? := fun k hk => by
        rw [← cellsN_at R i k hi' hk, ← htk, List.getElem?_take_of_lt (by omega)]
        simp [World.cell?, hg]
      rw [he]
      exact ⟨key 0 (by decide), key 1 (by decide), key 2 (by decide), key 3 (by decide), key 4 (by decide), key 6 (by decide), R[i].2, key 5 (by decide), (hk _ (List.getElem_mem hi')).weak fun p n c hq => hq.imp id fun hq b o hp => ⟨(hq b o hp).1, (hq b o hp).2.1, by simp⟩⟩
theorem Kids.offM {V0 C S : Nat} {w w' : World} {v : Value} {l : List Nd} (h : Kids w (midH V0 C S none) v l) (hb : ∀ b, b < V0 ∨ C ≤ b → w'.heap[b]? = w.heap[b]?) : Kids w' (midH V0 C S none) v l :=
  h.keepN fun p n c b o j u hn hq hp hj => by
    rcases hq with hq | hq
    · omega
    · rw [World.cell?_of_block (w := w) (a := ⟨b, o + j, none⟩) (hb b (hq b o hp).2.1)]
      exact hj
/-- The first blocks as they were. -/
def LowEq (C : Nat) (w x : World) : Prop := ∀ q, q < C → x.heap[q]? = w.heap[q]?
theorem LowEq.cell {C : Nat} {w x : World} (h : LowEq C w x) {b o : Nat} {v : Value} (hb : b < C) (hc : w.cell? ⟨b, o, none⟩ = some v) : x.cell? ⟨b, o, none⟩ = some v := (World.cell?_of_block (w := w) (a := ⟨b, o, none⟩) (h b hb)).trans hc
theorem LowEq.drew (C : Nat) (w : World) : LowEq C w w.drew := fun _ _ => rfl
theorem LowEq.refl (C : Nat) (w : World) : LowEq C w w := fun _ _ => rfl
theorem LowEq.of {C : Nat} {w x : World} (h : Below w.heap.size w x) (hC : C ≤ w.heap.size) : LowEq C w x := fun q hq => h.block q (by omega)
theorem nmN_row {nm : ByteArray} {v t : Nd} (h : (t.kind == 4) = false ∨ sameB t.name nm = false) : nmN nm v t = argsN t (t.args.map (nmN nm v)) := by
  rw [← nmL_map]
  show nmOne nm v t (nmL nm v t.args) = _
  unfold nmOne
  rw [if_neg (by rcases h with h | h <;> simp [h])]
theorem nmN_name {nm : ByteArray} {v t : Nd} (h : (t.kind == 4) = true) (h2 : sameB t.name nm = true) : nmN nm v t = keyN v t.key := by
  unfold nmN nmOne
  rw [if_pos (by simp [h, h2])]
theorem three_heap (w : World) (a b c : Obj) : (((w.alloc a).alloc b).alloc c).heap[w.heap.size + 2]? = some c := by
  have := two_heap (w.alloc a) b c
  rw [show (w.alloc a).heap.size + 1 = w.heap.size + 2 by simp] at this
  exact this

end Go.Proofs.Ytbmkddmmclndcaa
