import Derived.Test.YtbmkddmmclndcaaPart23
import Derived.Test.YtbmkddmmclndcaaPart4
import Derived.Test.YtbmkddmmclndcaaPart21
/- The head of layer 12's statements. (tool/layer12/gensure.py) -/
namespace Go.Proofs.Ytbmkddmmclndcaa
open Go.RowKit
set_option linter.unusedVariables false
set_option linter.unusedSimpArgs false

theorem sgdok : ok1 sgdW := by
  refine ⟨⟨by decide, by decide, by decide, by decide⟩, (okL_cons _ _).2 ⟨⟨⟨by decide, by decide, by decide, by decide⟩, okL_nil⟩, okL_nil⟩⟩
theorem chainok : ok1 chainW := by
  refine ⟨⟨by decide, by decide, by decide, by decide⟩, (okL_cons _ _).2 ⟨⟨⟨by decide, by decide, by decide, by decide⟩, okL_nil⟩, okL_nil⟩⟩
theorem adamok : ok1 adamW := ⟨⟨by decide, by decide, by decide, by decide⟩, okL_nil⟩
theorem kids_any {w : World} {S : Blk} {v : Value} {l : List Nd} (h : Kids w (inH S) v l) : Kids w anyH v l := h.weak fun _ _ _ _ => trivial

set_option maxRecDepth 100000 in
set_option maxHeartbeats 4000000 in
theorem works_any (w : World) :
    Calls Try.prog 8 #[] w fun e w' => e = .returned (.bool true) ∧ Below w.heap.size w w' := by
  obtain ⟨A, B, hA, hB, hE1⟩ := exp_sgd
  have HX1 : Hid (∀ (G : Nat) (x : World), Kids x anyH (.slice (some ⟨G, 0, none⟩) 1 1) [rateW] → Calls Try.prog 9 #[.agg #[.int .i64 1, .string ⟨#[115, 103, 100]⟩, .int .u32 0, .int .i64 0, .string ⟨#[]⟩, .slice (some ⟨G, 0, none⟩) 1 1, .int .i64 0]] x fun e w' => ∃ b c, e = .returned (.tuple #[.agg #[.int .i64 1, .string ⟨#[99, 104, 97, 105, 110]⟩, .int .u32 0, .int .i64 0, .string ⟨#[]⟩, .slice (some ⟨b, 0, none⟩) 2 c, .int .i64 0], .int .i64 0, .int .i64 0]) ∧ (w'.cell? ⟨b, 1, none⟩ = some (.string ⟨#[116, 114, 97, 99, 101]⟩) ∧ w'.cell? ⟨b, 8, none⟩ = some (.string ⟨#[115, 99, 97, 108, 101]⟩)) ∧ Below x.heap.size x w') := fun G x hx => by
    refine (expand_any sgdW _ x (by rw [cnt_sgd]; decide) sgdok hx).mono fun e w' ⟨sv, h1, h2, h3⟩ => ?_
    rw [hE1] at h1 h2
    obtain ⟨p, c, rfl, hq, hk⟩ := h2
    rcases hk with hk | ⟨b, o, rfl, hk⟩
    · cases hk
    · rcases hq with ⟨hh, -⟩ | ⟨b2, hh, -, -⟩
      · cases hh
      · simp only [Option.some.injEq, Addr.mk.injEq] at hh
        obtain ⟨rfl, rfl, -⟩ := hh
        rw [KA_cons, KA_cons] at hk
        refine ⟨b, c, h1, ⟨?_, ?_⟩, h3⟩
        · have := hk.1.2.1; rw [hA] at this; exact this
        · have := hk.2.1.2.1; rw [hB] at this; exact this
  have HX2 : Hid (∀ (G2 : Nat) (x : World), Kids x anyH (.slice (some ⟨G2, 0, none⟩) 1 1) [rateW] → Calls Try.prog 9 #[.agg #[.int .i64 1, .string ⟨#[99, 104, 97, 105, 110]⟩, .int .u32 0, .int .i64 0, .string ⟨#[]⟩, .slice (some ⟨G2, 0, none⟩) 1 1, .int .i64 0]] x fun e w' => ∃ p2 c2, e = .returned (.tuple #[.agg #[.int .i64 1, .string ⟨#[99, 104, 97, 105, 110]⟩, .int .u32 0, .int .i64 0, .string ⟨#[]⟩, .slice p2 1 c2, .int .i64 0], .int .i64 0, .int .i64 0]) ∧ Below x.heap.size x w') := fun G x hx => by
    refine (expand_any chainW _ x (by rw [cnt_chain]; decide) chainok hx).mono fun e w' ⟨sv, h1, h2, h3⟩ => ?_
    rw [exp_chain] at h1 h2
    obtain ⟨p, c, rfl, -⟩ := h2
    exact ⟨p, c, h1, h3⟩
  have HX3 : Hid (∀ (x : World), Calls Try.prog 9 #[.agg #[.int .i64 1, .string ⟨#[97, 100, 97, 109]⟩, .int .u32 0, .int .i64 0, .string ⟨#[]⟩, .slice none 0 0, .int .i64 0]] x fun e w' => ∃ p3 c3, e = .returned (.tuple #[.agg #[.int .i64 0, .string ⟨#[]⟩, .int .u32 0, .int .i64 0, .string ⟨#[]⟩, .slice p3 0 c3, .int .i64 0], .int .i64 131, .int .i64 0]) ∧ Below x.heap.size x w') := fun x => by
    refine (expand_any adamW (.slice none 0 0) x (by rw [cnt_adam]; decide) adamok ⟨none, 0, rfl, trivial, .inl rfl⟩).mono fun e w' ⟨sv, h1, h2, h3⟩ => ?_
    rw [exp_adam] at h1 h2
    obtain ⟨p, c, rfl, -⟩ := h2
    exact ⟨p, c, h1, h3⟩
  clear hA hB hE1
  obtain ⟨W, hW, hX, hB0, hs⟩ := new_box w
  obtain ⟨⟨g0, g1, g2, g3, g4, g5, g6⟩, f0, f1, f2, f3, f4, f5, f6⟩ := sevenA hX
  have HW := hidM hX
  have HB0 := hidM hB0
  clear hX hB0 hs
  go_enter Try.func8, Try.ntmps8
  go_upto_region 2 with fail
  have hx1 := put_sevenA HW.out (.int .i64 2) (.string ⟨#[]⟩) (.int .u32 1036831949) (.int .i64 0) (.string ⟨#[]⟩) (.slice none 0 0) (.int .i64 4)
  have hb1 := below_seven HB0.out (.int .i64 2) (.string ⟨#[]⟩) (.int .u32 1036831949) (.int .i64 0) (.string ⟨#[]⟩) (.slice none 0 0) (.int .i64 4)
  obtain ⟨U1, hU1⟩ : ∃ UU, (((((((W.setCell ⟨w.heap.size, 0, none⟩ (.int .i64 2)).setCell ⟨w.heap.size, 1, none⟩ (.string ⟨#[]⟩)).setCell ⟨w.heap.size, 2, none⟩ (.int .u32 1036831949)).setCell ⟨w.heap.size, 3, none⟩ (.int .i64 0)).setCell ⟨w.heap.size, 4, none⟩ (.string ⟨#[]⟩)).setCell ⟨w.heap.size, 5, none⟩ (.slice none 0 0)).setCell ⟨w.heap.size, 6, none⟩ (.int .i64 4)) = UU := ⟨_, rfl⟩
  rw [hU1] at hx1 hb1 ⊢
  have HR1 := hidM hx1
  have HB1 := hidM hb1
  clear hU1 hW g0 g1 g2 g3 g4 g5 g6 f0 f1 f2 f3 f4 f5 f6
  obtain ⟨⟨g0, g1, g2, g3, g4, g5, g6⟩, -⟩ := sevenA hx1
  clear hx1 hb1
  obtain ⟨U2, hU2⟩ : ∃ UU, U1.alloc (.cells #[.int .i64 2, .string ⟨#[]⟩, .int .u32 1036831949, .int .i64 0, .string ⟨#[]⟩, .slice none 0 0, .int .i64 4] 26) = UU := ⟨_, rfl⟩
  have hk2 := kids_row (w := U1) (S := fun j => j = U1.heap.size) (R := [(rateW, .slice none 0 0)]) (cs := #[.int .i64 2, .string ⟨#[]⟩, .int .u32 1036831949, .int .i64 0, .string ⟨#[]⟩, .slice none 0 0, .int .i64 4]) rfl (fun r hr => by rw [List.mem_singleton.1 hr]; exact kids_none _ _) rfl (by decide)
  have hb2 := bel_alloc U1 (.cells #[.int .i64 2, .string ⟨#[]⟩, .int .u32 1036831949, .int .i64 0, .string ⟨#[]⟩, .slice none 0 0, .int .i64 4] 26)
  rw [hU2] at hk2 hb2
  have HK2 : Hid (Kids U2 anyH (.slice (some ⟨U1.heap.size, 0, none⟩) 1 1) [rateW]) := kids_any hk2
  have HB2 : Hid (Below w.heap.size w U2) := bel HB1.out hb2
  have HR2 : Hid (U2.heap[w.heap.size]? = some (.cells #[.int .i64 2, .string ⟨#[]⟩, .int .u32 1036831949, .int .i64 0, .string ⟨#[]⟩, .slice none 0 0, .int .i64 4] 26)) := (hb2.block _ (hlt HR1.out)).trans HR1.out
  clear hk2 hb2
  obtain ⟨W3, hW3, hX3, hB3, -⟩ := new_box U2
  obtain ⟨⟨q0, q1, q2, q3, q4, q5, q6⟩, r0, r1, r2, r3, r4, r5, r6⟩ := sevenA hX3
  have HX3b := hidM hX3
  have HB3 := hidM hB3
  clear hX3 hB3
  go_upto_region 3 with fail
  obtain ⟨G, hG⟩ : ∃ G, U1.heap.size = G := ⟨_, rfl⟩
  rw [hG] at HK2 ⊢
  have hx3 := put_sevenA HX3b.out (.int .i64 1) (.string ⟨#[115, 103, 100]⟩) (.int .u32 0) (.int .i64 0) (.string ⟨#[]⟩) (.slice (some ⟨G, 0, none⟩) 1 1) (.int .i64 0)
  have hb3 := below_seven HB3.out (.int .i64 1) (.string ⟨#[115, 103, 100]⟩) (.int .u32 0) (.int .i64 0) (.string ⟨#[]⟩) (.slice (some ⟨G, 0, none⟩) 1 1) (.int .i64 0)
  obtain ⟨U3, hU3⟩ : ∃ UU, (((((((W3.setCell ⟨U2.heap.size, 0, none⟩ (.int .i64 1)).setCell ⟨U2.heap.size, 1, none⟩ (.string ⟨#[115, 103, 100]⟩)).setCell ⟨U2.heap.size, 2, none⟩ (.int .u32 0)).setCell ⟨U2.heap.size, 3, none⟩ (.int .i64 0)).setCell ⟨U2.heap.size, 4, none⟩ (.string ⟨#[]⟩)).setCell ⟨U2.heap.size, 5, none⟩ (.slice (some ⟨G, 0, none⟩) 1 1)).setCell ⟨U2.heap.size, 6, none⟩ (.int .i64 0)) = UU := ⟨_, rfl⟩
  rw [hU3] at hx3 hb3 ⊢
  have HK3 : Hid (Kids U3 anyH (.slice (some ⟨G, 0, none⟩) 1 1) [rateW]) := HK2.out.below hb3
  have HB3w : Hid (Below w.heap.size w U3) := bel HB2.out hb3
  have HR3 : Hid (U3.heap[w.heap.size]? = some (.cells #[.int .i64 2, .string ⟨#[]⟩, .int .u32 1036831949, .int .i64 0, .string ⟨#[]⟩, .slice none 0 0, .int .i64 4] 26)) := (hb3.block _ (hlt HR2.out)).trans HR2.out
  obtain ⟨O, hO⟩ : ∃ O, U2.heap.size = O := ⟨_, rfl⟩
  rw [hO] at hx3 ⊢
  clear g0 g1 g2 g3 g4 g5 g6 q0 q1 q2 q3 q4 q5 q6 r0 r1 r2 r3 r4 r5 r6 hU3 hU2 hG hW3 hO hb3 HX3b HB3 HB0 HW
  obtain ⟨⟨q0, q1, q2, q3, q4, q5, q6⟩, -⟩ := sevenA hx3
  clear hx3
  go_upto_region 4 with (go_at_call 9; (with_reducible refine (HX1.out _ _ HK3.out).mono ?_); rintro e v1 ⟨b1, c1, rfl, ⟨hn1, hn8⟩, hb1⟩; have HN1 : Hid (v1.cell? ⟨b1, 1, none⟩ = some (.string ⟨#[116, 114, 97, 99, 101]⟩) ∧ v1.cell? ⟨b1, 8, none⟩ = some (.string ⟨#[115, 99, 97, 108, 101]⟩)) := ⟨hn1, hn8⟩; have HB4 : Hid (Below w.heap.size w v1) := bel HB3w.out hb1; have HR4 : Hid (v1.heap[w.heap.size]? = some (.cells #[.int .i64 2, .string ⟨#[]⟩, .int .u32 1036831949, .int .i64 0, .string ⟨#[]⟩, .slice none 0 0, .int .i64 4] 26)) := (hb1.block _ (hlt HR3.out)).trans HR3.out; clear hn1 hn8 hb1; obtain ⟨W5, hW5, hX5, hB5, -⟩ := new_box v1; obtain ⟨⟨s0, s1, s2, s3, s4, s5, s6⟩, r0, r1, r2, r3, r4, r5, r6⟩ := sevenA hX5; have HX5 := hidM hX5; have HB5 := hidM hB5; clear hX5 hB5)
  have hx5 := put_sevenA HX5.out (.int .i64 1) (.string ⟨#[99, 104, 97, 105, 110]⟩) (.int .u32 0) (.int .i64 0) (.string ⟨#[]⟩) (.slice (some ⟨b1, 0, none⟩) 2 c1) (.int .i64 0)
  have hb5 := below_seven HB5.out (.int .i64 1) (.string ⟨#[99, 104, 97, 105, 110]⟩) (.int .u32 0) (.int .i64 0) (.string ⟨#[]⟩) (.slice (some ⟨b1, 0, none⟩) 2 c1) (.int .i64 0)
  obtain ⟨U5, hU5⟩ : ∃ UU, (((((((W5.setCell ⟨v1.heap.size, 0, none⟩ (.int .i64 1)).setCell ⟨v1.heap.size, 1, none⟩ (.string ⟨#[99, 104, 97, 105, 110]⟩)).setCell ⟨v1.heap.size, 2, none⟩ (.int .u32 0)).setCell ⟨v1.heap.size, 3, none⟩ (.int .i64 0)).setCell ⟨v1.heap.size, 4, none⟩ (.string ⟨#[]⟩)).setCell ⟨v1.heap.size, 5, none⟩ (.slice (some ⟨b1, 0, none⟩) 2 c1)).setCell ⟨v1.heap.size, 6, none⟩ (.int .i64 0)) = UU := ⟨_, rfl⟩
  rw [hU5] at hx5 hb5 ⊢
  have HB5w : Hid (Below w.heap.size w U5) := bel HB4.out hb5
  have HR5 : Hid (U5.heap[w.heap.size]? = some (.cells #[.int .i64 2, .string ⟨#[]⟩, .int .u32 1036831949, .int .i64 0, .string ⟨#[]⟩, .slice none 0 0, .int .i64 4] 26)) := (hb5.block _ (hlt HR4.out)).trans HR4.out
  have HN5 : Hid (U5.cell? ⟨b1, 1, none⟩ = some (.string ⟨#[116, 114, 97, 99, 101]⟩) ∧ U5.cell? ⟨b1, 8, none⟩ = some (.string ⟨#[115, 99, 97, 108, 101]⟩)) := ⟨(hb5.cell (mcell_lt HN1.out.1)).trans HN1.out.1, (hb5.cell (mcell_lt HN1.out.2)).trans HN1.out.2⟩
  obtain ⟨O1, hO1⟩ : ∃ O, v1.heap.size = O := ⟨_, rfl⟩
  rw [hO1] at hx5 ⊢
  have HA5 := hidM hx5
  clear q0 q1 q2 q3 q4 q5 q6 s0 s1 s2 s3 s4 s5 s6 r0 r1 r2 r3 r4 r5 r6 hU5 hW5 hO1 hb5 hx5 HX5 HB5 HN1 HR4 HB4 HX1
  obtain ⟨⟨g0, g1, g2, g3, g4, g5, g6⟩, -⟩ := sevenA HR5.out
  obtain ⟨U6, hU6⟩ : ∃ UU, U5.alloc (.cells #[.int .i64 2, .string ⟨#[]⟩, .int .u32 1036831949, .int .i64 0, .string ⟨#[]⟩, .slice none 0 0, .int .i64 4] 26) = UU := ⟨_, rfl⟩
  have hk6 := kids_row (w := U5) (S := fun j => j = U5.heap.size) (R := [(rateW, .slice none 0 0)]) (cs := #[.int .i64 2, .string ⟨#[]⟩, .int .u32 1036831949, .int .i64 0, .string ⟨#[]⟩, .slice none 0 0, .int .i64 4]) rfl (fun r hr => by rw [List.mem_singleton.1 hr]; exact kids_none _ _) rfl (by decide)
  have hb6 := bel_alloc U5 (.cells #[.int .i64 2, .string ⟨#[]⟩, .int .u32 1036831949, .int .i64 0, .string ⟨#[]⟩, .slice none 0 0, .int .i64 4] 26)
  rw [hU6] at hk6 hb6
  have HK6 : Hid (Kids U6 anyH (.slice (some ⟨U5.heap.size, 0, none⟩) 1 1) [rateW]) := kids_any hk6
  have HB6 : Hid (Below U5.heap.size U5 U6) := hb6
  clear hk6 hb6
  go_upto_region 5 with (go_at_call 9; (with_reducible refine (HX2.out _ _ HK6.out).mono ?_); rintro e v2 ⟨p2, c2, rfl, hb2⟩; have HB7 : Hid (Below U5.heap.size U5 v2) := bel HB6.out hb2; clear hb2; obtain ⟨W7, hW7, hX7, hB7, -⟩ := new_box v2; obtain ⟨⟨s0, s1, s2, s3, s4, s5, s6⟩, r0, r1, r2, r3, r4, r5, r6⟩ := sevenA hX7; have HX7 := hidM hX7; have HB7b := hidM hB7; clear hX7 hB7)
  have hx7 := put_sevenA HX7.out (.int .i64 1) (.string ⟨#[99, 104, 97, 105, 110]⟩) (.int .u32 0) (.int .i64 0) (.string ⟨#[]⟩) (.slice p2 1 c2) (.int .i64 0)
  have hb7 := below_seven HB7b.out (.int .i64 1) (.string ⟨#[99, 104, 97, 105, 110]⟩) (.int .u32 0) (.int .i64 0) (.string ⟨#[]⟩) (.slice p2 1 c2) (.int .i64 0)
  obtain ⟨U7, hU7⟩ : ∃ UU, (((((((W7.setCell ⟨v2.heap.size, 0, none⟩ (.int .i64 1)).setCell ⟨v2.heap.size, 1, none⟩ (.string ⟨#[99, 104, 97, 105, 110]⟩)).setCell ⟨v2.heap.size, 2, none⟩ (.int .u32 0)).setCell ⟨v2.heap.size, 3, none⟩ (.int .i64 0)).setCell ⟨v2.heap.size, 4, none⟩ (.string ⟨#[]⟩)).setCell ⟨v2.heap.size, 5, none⟩ (.slice p2 1 c2)).setCell ⟨v2.heap.size, 6, none⟩ (.int .i64 0)) = UU := ⟨_, rfl⟩
  rw [hU7] at hx7 hb7 ⊢
  have HB7w : Hid (Below U5.heap.size U5 U7) := bel HB7.out hb7
  obtain ⟨O2, hO2⟩ : ∃ O, v2.heap.size = O := ⟨_, rfl⟩
  rw [hO2] at hx7 ⊢
  have HA7 := hidM hx7
  clear g0 g1 g2 g3 g4 g5 g6 s0 s1 s2 s3 s4 s5 s6 r0 r1 r2 r3 r4 r5 r6 hU7 hW7 hO2 hb7 hx7 HX7 HB7b HB7 HX2 hU6 HK6 HB6
  go_upto_region 6 with (go_at_call 9; (with_reducible refine (HX3.out _).mono ?_); rintro e v3 ⟨p3, c3, rfl, hb3⟩; have HB8 : Hid (Below U7.heap.size U7 v3) := hb3; clear hb3; obtain ⟨W9, hW9, hX9, hB9, -⟩ := new_box v3; obtain ⟨⟨s0, s1, s2, s3, s4, s5, s6⟩, r0, r1, r2, r3, r4, r5, r6⟩ := sevenA hX9; have HB9 := hidM hB9; clear hX9 hB9)
  have hb9 := below_seven HB9.out (.int .i64 0) (.string ⟨#[]⟩) (.int .u32 0) (.int .i64 0) (.string ⟨#[]⟩) (.slice p3 0 c3) (.int .i64 0)
  obtain ⟨U9, hU9⟩ : ∃ UU, (((((((W9.setCell ⟨v3.heap.size, 0, none⟩ (.int .i64 0)).setCell ⟨v3.heap.size, 1, none⟩ (.string ⟨#[]⟩)).setCell ⟨v3.heap.size, 2, none⟩ (.int .u32 0)).setCell ⟨v3.heap.size, 3, none⟩ (.int .i64 0)).setCell ⟨v3.heap.size, 4, none⟩ (.string ⟨#[]⟩)).setCell ⟨v3.heap.size, 5, none⟩ (.slice p3 0 c3)).setCell ⟨v3.heap.size, 6, none⟩ (.int .i64 0)) = UU := ⟨_, rfl⟩
  rw [hU9] at hb9 ⊢
  have h79 := bel HB8.out hb9
  have h59 := bel HB7w.out h79
  have HBE : Hid (Below w.heap.size w U9) := bel HB5w.out h59
  clear s0 s1 s2 s3 s4 s5 s6 r0 r1 r2 r3 r4 r5 r6 hU9 hW9 hb9 HX3 HB9 HB8
  obtain ⟨⟨g0, g1, g2, g3, g4, g5, g6⟩, -⟩ := sevenA ((h59.block _ (hlt HA5.out)).trans HA5.out)
  obtain ⟨⟨q0, q1, q2, q3, q4, q5, q6⟩, -⟩ := sevenA ((h79.block _ (hlt HA7.out)).trans HA7.out)
  have n1 := (h59.cell (mcell_lt HN5.out.1)).trans HN5.out.1
  have n8 := (h59.cell (mcell_lt HN5.out.2)).trans HN5.out.2
  clear h79 h59
  go_wp2
  refine bodyPost_ret (by simp [results, Try.results8, go_sem]; try rfl) rfl ?_
  exact ⟨rfl, HBE.out⟩

end Go.Proofs.Ytbmkddmmclndcaa
/- The reference's Names; the statements' left. -/
namespace Go.Proofs.Ytbmkddmmclndcaa
open Go.RowKit
set_option linter.unusedVariables false
set_option linter.unusedSimpArgs false

def strT (l : List ByteArray) : List Value := l.map Value.string
/-- A list of texts that the call owns. -/
def OwnT (w : World) (B : Nat) (v : Value) (l : List ByteArray) : Prop := w.ownsRow B 9 1 v l.length (strT l)
theorem OwnT.at {w : World} {B : Nat} {v : Value} {l : List ByteArray} (h : OwnT w B v l) {j : Nat} (hj : j < l.length) : ∃ g c, v = .slice (some ⟨g, 0, none⟩) l.length c ∧ w.cell? ⟨g, j, none⟩ = some (.string l[j]) := by
  obtain ⟨hl, ho⟩ := h
  rcases ho with ⟨hv, hn⟩ | ⟨g, cap, cur, hv, hB, hg, hc1, hc2, hsz, htk⟩
  · omega
  · refine ⟨g, cap, hv, ?_⟩
    have e : cur.toList[j]? = (strT l)[j]? := by
      rw [← htk, List.getElem?_take_of_lt (by omega)]
    rw [World.cell?, hg]
    have e2 : (strT l)[j]? = some (.string l[j]) := by simp [strT, hj]
    rw [e2] at e
    simpa using e
theorem OwnT.shape {w : World} {B : Nat} {v : Value} {l : List ByteArray} (h : OwnT w B v l) : ∃ p c, v = .slice p l.length c := by
  rcases h.2 with ⟨hv, hn⟩ | ⟨g, cap, cur, hv, _⟩
  · exact ⟨none, 0, by rw [hv, hn]⟩
  · exact ⟨_, _, hv⟩
theorem OwnT.lt {w : World} {B : Nat} {v : Value} {l : List ByteArray} (h : OwnT w B v l) {g : Nat} (hg : v.ownBlock = some g) : B ≤ g ∧ g < w.heap.size := by
  rcases h.2 with ⟨hv, hn⟩ | ⟨b, cap, cur, hv, hB, hgg, _⟩
  · rw [hv] at hg; simp [Value.ownBlock] at hg
  · rw [hv] at hg
    have : b = g := by simpa [Value.ownBlock] using hg
    subst this
    exact ⟨hB, (Array.getElem?_eq_some_iff.1 hgg).1⟩
theorem ownT_snoc {w : World} {B : Nat} {v : Value} {l : List ByteArray} {nm : ByteArray} (h : w.ownsRow B 9 1 v (l.length + 1) (strT l ++ [.string nm])) : OwnT w B v (l ++ [nm]) := by
  unfold OwnT strT
  rw [List.length_append, List.map_append]
  exact h
theorem info_str : (Try.prog.info? 9).map (fun i => (i.zero, i.size, i.bytes)) = some (some (.string ⟨#[]⟩), 1, 16) := by kernel_rfl
def namesS : List ByteArray := rowsA.map (fun r => r.name)
theorem names_len : namesS.length = 17 := rfl
theorem rows_len17 : rowsA.length = 17 := rfl

set_option maxRecDepth 100000 in
set_option maxHeartbeats 4000000 in
theorem rnames12_any (w : World) :
    Calls Try.prog 23 #[] w fun e w' => ∃ v, e = .returned v ∧ OwnT w' w.heap.size v namesS ∧ Below w.heap.size w w' := by
  have HRW : Hid (∀ x : World, Calls Try.prog 17 #[] x fun e w' => ∃ b, e = .returned (.slice (some ⟨b, 0, none⟩) 17 17) ∧ (∀ i (h : i < namesS.length), w'.cell? ⟨b, i * 3, none⟩ = some (.string namesS[i])) ∧ Below x.heap.size x w') := fun x => (rows_any x).mono fun e w' ⟨v, h1, ⟨b, hB, hv, hr⟩, h3⟩ => ⟨b, by rw [h1, hv, rows_len17], fun i hi => by
      have hi2 : i < rowsA.length := by rw [rows_len17]; exact hi
      obtain ⟨s, n, h0, -⟩ := hr i hi2
      have e : namesS[i] = rowsA[i].name := List.getElem_map _
      exact h0.trans (congrArg (fun z => some (Value.string z)) e.symm), h3⟩
  obtain ⟨i0, hi0, hz0, hz1, hz2⟩ := info_parts info_str
  go_enter Try.func23, Try.ntmps23
  go_wp2_with (go_at_call 17; (with_reducible refine (HRW.out _).mono ?_); rintro e v1 ⟨b, rfl, hn1, hb1⟩; have HN1 : Hid (∀ i (h : i < namesS.length), v1.cell? ⟨b, i * 3, none⟩ = some (.string namesS[i])) := hn1; have HB1 : Hid (Below w.heap.size w v1) := hb1; clear hn1 hb1)
  go_loopw [1, 3] (fun lv iv wr => ∃ (j : Nat) (ov : Value), ov = lv ∧ j ≤ 17 ∧ iv = .int .i64 j ∧ Hid (Below v1.heap.size v1 wr ∧ OwnT wr v1.heap.size ov (namesS.take j))) (fun _ iv _ => 17 - (intOf iv).toNat)
  case atStart => exact ⟨0, _, rfl, Nat.zero_le _, rfl, Below.refl _ _, World.ownsRow_nil _ _ _ 1⟩
  case round =>
    obtain ⟨j, ov, rfl, hj, rfl, HS⟩ := hrel
    obtain ⟨hb, hown⟩ := HS.out
    clear HS
    by_cases hlt0 : j < 17
    · have hll : j < namesS.length := by rw [names_len]; exact hlt0
      have hcell := (hb.cell (mcell_lt (HN1.out j hll))).trans (HN1.out j hll)
      have HTK : Hid (namesS.take (j + 1) = namesS.take j ++ [namesS[j]]) := by show _ = _; rw [List.take_succ_eq_append_getElem hll]
      obtain ⟨nm, hnm⟩ : ∃ nm, namesS[j] = nm := ⟨_, rfl⟩
      rw [hnm] at hcell HTK
      obtain ⟨tk, htk⟩ : ∃ tk, namesS.take j = tk := ⟨_, rfl⟩
      have HTL : Hid (tk.length = j) := by show _ = _; rw [← htk, List.length_take]; omega
      rw [htk] at hown HTK
      have HOW : Hid (OwnT wr v1.heap.size ov tk) := hown
      have HB : Hid (Below v1.heap.size v1 wr) := hb
      have i1 : (0 : Int) ≤ (j : Int) := by omega
      have i2 : (j : Int) < 17 := by omega
      obtain ⟨po, co, rfl⟩ := hown.shape
      have htl := HTL.out
      clear hnm htk hown hb
      go_wp2_with (at_builtin; refine wpList_append_own_at _ rfl _ _ 42 rfl v1.heap.size 9 i0 _ 1 16 Try.underlying42 hi0 hz0 hz1 hz2 rfl (by decide) (.slice po tk.length co) tk.length (strT tk) rfl (World.ownsRow.alloc HOW.out _) ⟨wr.heap.size, 0, none⟩ 1 1 [.string nm] rfl rfl (World.news_of_block (cs := #[.string nm]) (t := 9) (fr := (0, 0)) (box_heapA wr _)) (by simp [Value.oneCell']) (by unfold maxLen; omega) (by omega) (by simp; have := HB.out.size; omega) ?_; intro tv2 w5 hown5 hgrow hnil hat; have HO5 : Hid (OwnT w5 v1.heap.size tv2 (tk ++ [nm])) := ownT_snoc hown5; have HB5 : Hid (Below v1.heap.size v1 w5) := Below.grown (bel HB.out (bel_alloc _ _)) hgrow (by simp; have := HB.out.size; omega) (fun g e => (HOW.out.lt e).1); obtain ⟨p2, c2, rfl⟩ := HO5.out.shape; clear hown5 hgrow hnil hat)
      go_roundw
      case rel => exact ⟨j + 1, _, rfl, by omega, by go_num, HB5.out, by rw [HTK.out]; have h := HO5.out; rw [show (tk ++ [nm]).length = j + 1 by rw [List.length_append, HTL.out]; rfl] at h; exact h⟩
      case measure => simp [intOf]; omega
    · have : j = 17 := by omega
      subst this
      have i2 : ¬ ((17 : Int) < 17) := by omega
      have HB : Hid (Below w.heap.size w wr) := bel HB1.out hb
      rw [show namesS.take 17 = namesS from rfl] at hown
      have HOW : Hid (OwnT wr w.heap.size ov namesS) := by
        refine ⟨hown.1, ?_⟩
        rcases hown.2 with hv | ⟨g, cap, cur, hv, hB, hg⟩
        · exact .inl hv
        · exact .inr ⟨g, cap, cur, hv, by have := HB1.out.size; omega, hg⟩
      obtain ⟨po, co, rfl⟩ := hown.shape
      clear hown hb
      go_wp2
      refine bodyPost_ret (by simp [results, Try.results23, go_sem]; try rfl) rfl ?_
      exact ⟨_, rfl, HOW.out, HB.out⟩

/-- Is an alias or a let left in a tree? -/
def lfQ (k : Int) (n : ByteArray) : Bool := k == 6 || (k == 1 && namesS.any (fun x => sameB n x))
def leftL : List Nd → Bool
  | [] => false
  | ⟨k, n, _, _, _, l, _⟩ :: r => (lfQ k n || leftL l) || leftL r
def leftP (t : Nd) : Bool := lfQ t.kind t.name || leftL t.args
theorem leftL_nil : leftL [] = false := by simp [leftL]
theorem leftL_cons (t : Nd) (r : List Nd) : leftL (t :: r) = (leftP t || leftL r) := by cases t; simp [leftL, leftP]
theorem any_drop {l : List ByteArray} {j : Nat} (h : j < l.length) (q : ByteArray → Bool) : (l.drop j).any q = (q l[j] || (l.drop (j + 1)).any q) := by
  rw [List.drop_eq_getElem_cons h, List.any_cons]
def LeftM (N : Nat) : Prop := ∀ (t : Nd) (p : Option Addr) (c : Nat) (w : World), dep t ≤ N → cnt t ≤ 40000 → Kids w anyH (.slice p t.args.length c) t.args →
  Calls Try.prog 12 #[nv t (.slice p t.args.length c)] w fun e w' => e = .returned (.bool (leftP t)) ∧ Below w.heap.size w w'

set_option maxRecDepth 100000 in
set_option maxHeartbeats 4000000 in
theorem leftm_step (N : Nat) (ih : LeftM N) : LeftM (N + 1) := by
  intro t p c w hd hc hk
  have hlen : t.args.length ≤ 40000 := by have := cntL_len t.args; unfold cnt at hc; omega
  obtain ⟨LF, hLF⟩ : ∃ L, leftP t = L := ⟨_, rfl⟩
  rw [hLF]
  have HLF : Hid ((lfQ t.kind t.name || leftL t.args) = LF) := hLF
  have HIH : Hid (∀ j (hj : j < t.args.length) (p : Option Addr) (c : Nat) (x : World), Kids x anyH (.slice p t.args[j].args.length c) t.args[j].args → Calls Try.prog 12 #[nv t.args[j] (.slice p t.args[j].args.length c)] x fun e w' => e = .returned (.bool (leftP t.args[j])) ∧ Below x.heap.size x w') := fun j hj p c x hx =>
    ih t.args[j] p c x (by have h1 := dep_get hj; unfold dep at hd; omega) (by have h1 := cnt_get hj; unfold cnt at hc; omega) hx
  have HKD : Hid (Kids w anyH (.slice p t.args.length c) t.args) := hk
  obtain ⟨n, hnn⟩ : ∃ n, t.args.length = n := ⟨_, rfl⟩
  have HN : Hid (t.args.length = n) := hnn
  rw [hnn] at hlen ⊢
  unfold nv
  have HNS : Hid (∀ x : World, Calls Try.prog 23 #[] x fun e w' => ∃ g cc, e = .returned (.slice (some ⟨g, 0, none⟩) 17 cc) ∧ (∀ i (h : i < namesS.length), w'.cell? ⟨g, i, none⟩ = some (.string namesS[i])) ∧ Below x.heap.size x w') := fun x => (rnames12_any x).mono fun e w' ⟨v, h1, h2, h3⟩ => by
    obtain ⟨g, cc, hv, -⟩ := h2.at (j := 0) (by decide)
    refine ⟨g, cc, by rw [h1, hv]; rfl, fun i hi => ?_, h3⟩
    obtain ⟨g', cc', hv', hc'⟩ := h2.at hi
    rw [hv] at hv'
    simp only [Value.slice.injEq, Option.some.injEq, Addr.mk.injEq] at hv'
    obtain ⟨⟨rfl, -⟩, -⟩ := hv'
    exact hc'
  obtain ⟨W, hW⟩ : ∃ W, w.alloc (.cells #[.int .i64 t.kind, .string t.name, .int .u32 t.num, .int .i64 t.int_, .string t.key, .slice p n c, .int .i64 t.at_] 26) = W := ⟨_, rfl⟩
  have hbx : Below w.heap.size w W := by rw [← hW]; exact bel_alloc _ _
  have hxx : W.heap[w.heap.size]? = some (.cells #[.int .i64 t.kind, .string t.name, .int .u32 t.num, .int .i64 t.int_, .string t.key, .slice p n c, .int .i64 t.at_] 26) := by rw [← hW]; exact box_heapA _ _
  have HBX := hidM hbx
  have HXX := hidM hxx
  clear hd hc hk ih hLF hnn hbx hxx
  go_enter Try.func12, Try.ntmps12
  go_wp2_with (go_at_call 23; (with_reducible refine (HNS.out _).mono ?_); rintro e v1 ⟨g, cc, rfl, hn1, hb1⟩; have HN1 : Hid (∀ i (h : i < namesS.length), v1.cell? ⟨g, i, none⟩ = some (.string namesS[i])) := hn1; have HB1 : Hid (Below w.heap.size w v1) := bel HBX.out hb1; have HX1 : Hid (v1.heap[w.heap.size]? = some (.cells #[.int .i64 t.kind, .string t.name, .int .u32 t.num, .int .i64 t.int_, .string t.key, .slice p n c, .int .i64 t.at_] 26)) := (hb1.block _ (hlt HXX.out)).trans HXX.out; clear hn1 hb1)
  go_loopw [4] (fun iv wr => ∃ j : Nat, j ≤ 17 ∧ iv = .int .i64 j ∧ Hid (Below v1.heap.size v1 wr ∧ lfQ t.kind t.name = (if j = 0 then lfQ t.kind t.name else (t.kind == 1 && (namesS.drop j).any (fun x => sameB t.name x))))) (fun iv _ => 17 - (intOf iv).toNat)
  case atStart => exact ⟨0, Nat.zero_le _, rfl, Below.refl _ _, by rw [if_pos rfl]⟩
  case round =>
    obtain ⟨j, hj, rfl, HS⟩ := hrel
    obtain ⟨hb, hq⟩ := HS.out
    clear HS
    have HB : Hid (Below v1.heap.size v1 wr) := hb
    obtain ⟨⟨x0, x1, x2, x3, x4, x5, x6⟩, -⟩ := sevenA ((hb.block _ (hlt HX1.out)).trans HX1.out)
    by_cases hlt0 : j < 17
    · have hll : j < namesS.length := by rw [names_len]; exact hlt0
      have hcell := (hb.cell (mcell_lt (HN1.out j hll))).trans (HN1.out j hll)
      have hdr := any_drop hll (fun x => sameB t.name x)
      have hstep : lfQ t.kind t.name = (t.kind == 6 || (t.kind == 1 && sameB t.name namesS[j]) || (t.kind == 1 && (namesS.drop (j + 1)).any (fun x => sameB t.name x))) := by
        by_cases j0 : j = 0
        · subst j0
          rw [List.drop_zero] at hdr
          unfold lfQ
          rw [hdr]
          cases (t.kind == 6) <;> cases (t.kind == 1) <;> simp
        · rw [if_neg j0, hdr] at hq
          have h6 : (t.kind == 6) = true → lfQ t.kind t.name = true := fun h => by unfold lfQ; rw [h]; rfl
          cases h : (t.kind == 6)
          · rw [hq]
            cases (t.kind == 1) <;> simp
          · rw [h6 h]; simp
      obtain ⟨nm, hnm⟩ : ∃ nm, namesS[j] = nm := ⟨_, rfl⟩
      rw [hnm] at hcell hstep
      have i1 : (0 : Int) ≤ (j : Int) := by omega
      have i2 : (j : Int) < 17 := by omega
      unfold sameB at hstep
      obtain ⟨k6, hk6⟩ : ∃ b, (t.kind == 6) = b := ⟨_, rfl⟩
      obtain ⟨k1, hk1⟩ : ∃ b, (t.kind == 1) = b := ⟨_, rfl⟩
      obtain ⟨kn, hkn⟩ : ∃ b, (t.name.toList == nm.toList) = b := ⟨_, rfl⟩
      have HST : Hid (lfQ t.kind t.name = (k6 || (k1 && kn) || (k1 && (namesS.drop (j + 1)).any (fun x => t.name.toList == x.toList)))) := by show _ = _; rw [hstep, hk6, hk1, hkn]
      have HK1 : Hid ((t.kind == 1) = k1) := hk1
      clear hq hdr hstep hnm hb
      cases k6
      · cases k1
        · have HNX : Hid (lfQ t.kind t.name = (t.kind == 1 && (namesS.drop (j + 1)).any (fun x => sameB t.name x))) := by show _ = _; rw [HST.out, HK1.out]; rfl
          go_wp2
          go_quiet (fail)
          go_wp2
          go_roundw
          case rel => exact ⟨j + 1, by omega, by go_num, bel HB.out (bel_dn _ _), by rw [if_neg (by omega)]; exact HNX.out⟩
          case measure => simp [intOf]; omega
        · cases kn
          · have HNX : Hid (lfQ t.kind t.name = (t.kind == 1 && (namesS.drop (j + 1)).any (fun x => sameB t.name x))) := by show _ = _; rw [HST.out, HK1.out]; rfl
            go_wp2
            go_quiet (fail)
            go_wp2
            go_roundw
            case rel => exact ⟨j + 1, by omega, by go_num, bel HB.out (bel_dn _ _), by rw [if_neg (by omega)]; exact HNX.out⟩
            case measure => simp [intOf]; omega
          · have HLT : Hid (LF = true) := by show _ = _; rw [← HLF.out, HST.out]; rfl
            go_wp2
            go_quiet (fail)
            go_wp2
            refine bodyPost_ret (by simp [results, Try.results12, go_sem]; try rfl) rfl ?_
            rw [HLT.out]
            exact ⟨rfl, bel HB1.out (bel HB.out (bel_dn _ _))⟩
      · have HLT : Hid (LF = true) := by show _ = _; rw [← HLF.out, HST.out]; rfl
        go_wp2
        go_quiet (fail)
        go_wp2
        refine bodyPost_ret (by simp [results, Try.results12, go_sem]; try rfl) rfl ?_
        rw [HLT.out]
        exact ⟨rfl, bel HB1.out (bel HB.out (bel_dn _ _))⟩
    · have : j = 17 := by omega
      subst this
      have i2 : ¬ ((17 : Int) < 17) := by omega
      have HLL : Hid (leftL t.args = LF) := by
        show _ = _
        rw [← HLF.out, hq, if_neg (by decide), show namesS.drop 17 = [] from rfl]
        simp
      have HBW : Hid (Below w.heap.size w wr) := bel HB1.out hb
      have HXW : Hid (wr.heap[w.heap.size]? = some (.cells #[.int .i64 t.kind, .string t.name, .int .u32 t.num, .int .i64 t.int_, .string t.key, .slice p n c, .int .i64 t.at_] 26)) := (hb.block _ (hlt HX1.out)).trans HX1.out
      clear hq hb
      go_wp2
      go_loopw [5] (fun iv wx => ∃ m : Nat, m ≤ n ∧ iv = .int .i64 m ∧ Hid (Below w.heap.size w wx ∧ wx.heap[w.heap.size]? = some (.cells #[.int .i64 t.kind, .string t.name, .int .u32 t.num, .int .i64 t.int_, .string t.key, .slice p n c, .int .i64 t.at_] 26) ∧ leftL (t.args.drop m) = LF)) (fun iv _ => n - (intOf iv).toNat)
      case atStart => exact ⟨0, Nat.zero_le _, rfl, HBW.out, HXW.out, HLL.out⟩
      case round =>
        obtain ⟨m, hm, rfl, HS⟩ := hrel
        obtain ⟨hb, hx, hll⟩ := HS.out
        clear HS x0 x1 x2 x3 x4 x5 x6
        have HB2 : Hid (Below w.heap.size w wr) := hb
        have HX2 : Hid (wr.heap[w.heap.size]? = some (.cells #[.int .i64 t.kind, .string t.name, .int .u32 t.num, .int .i64 t.int_, .string t.key, .slice p n c, .int .i64 t.at_] 26)) := hx
        obtain ⟨⟨x0, x1, x2, x3, x4, x5, x6⟩, -⟩ := sevenA hx
        by_cases hlt0 : m < n
        · have hlm : m < t.args.length := by rw [HN.out]; exact hlt0
          obtain ⟨q, d, hpq, -, hka⟩ := HKD.out
          simp only [Value.slice.injEq, true_and] at hpq
          obtain ⟨rfl, rfl⟩ := hpq
          obtain ⟨b', o', rfl, hka2⟩ : ∃ b' o', p = some ⟨b', o', none⟩ ∧ KA w anyH b' o' t.args := by
            rcases hka with e | e
            · rw [e] at hlm; exact absurd hlm (Nat.not_lt_zero _)
            · exact e
          have hnj := (KA_get hka2 hlm).below hb
          have hdr : t.args.drop m = t.args[m] :: t.args.drop (m + 1) := List.drop_eq_getElem_cons hlm
          rw [hdr, leftL_cons] at hll
          have hca := HIH.out m hlm
          obtain ⟨X, hX⟩ : ∃ X, t.args[m] = X := ⟨_, rfl⟩
          rw [hX] at hnj hll hca
          obtain ⟨y0, y1, y2, y3, y4, y6, svx, y5, hkx⟩ := hnj
          obtain ⟨px, cx, rfl, -⟩ := id hkx
          obtain ⟨LX, hLX⟩ : ∃ L, leftP X = L := ⟨_, rfl⟩
          have hca2 := hca px cx wr hkx
          rw [hLX] at hca2 hll
          have HCA : Hid (Calls Try.prog 12 #[.agg #[.int .i64 X.kind, .string X.name, .int .u32 X.num, .int .i64 X.int_, .string X.key, .slice px X.args.length cx, .int .i64 X.at_]] wr fun e w' => e = .returned (.bool LX) ∧ Below wr.heap.size wr w') := hca2
          have i1 : (0 : Int) ≤ (m : Int) := by omega
          have i2 : (m : Int) < (n : Int) := by omega
          cases LX
          · have HNX : Hid (leftL (t.args.drop (m + 1)) = LF) := by show _ = _; rw [← hll]; rfl
            clear hll hca hca2 hkx hX hLX hdr hka hka2 hb hx HIH HKD
            go_wp2_with (go_at_call 12; (with_reducible refine HCA.out.mono ?_); rintro e w3 ⟨rfl, hb3⟩; have HB3 := hidM hb3; clear hb3)
            go_roundw
            case rel => exact ⟨m + 1, by omega, by go_num, bel HB2.out HB3.out, (HB3.out.block _ (hlt HX2.out)).trans HX2.out, HNX.out⟩
            case measure => simp [intOf]; omega
          · have HNX : Hid (LF = true) := by show _ = _; rw [← hll]; rfl
            clear hll hca hca2 hkx hX hLX hdr hka hka2 hb hx HIH HKD
            go_wp2_with (go_at_call 12; (with_reducible refine HCA.out.mono ?_); rintro e w3 ⟨rfl, hb3⟩; have HB3 := hidM hb3; clear hb3)
            refine bodyPost_ret (by simp [results, Try.results12, go_sem]; try rfl) rfl ?_
            rw [HNX.out]
            exact ⟨rfl, bel HB2.out HB3.out⟩
        · have : m = n := by omega
          subst this
          have i2 : ¬ ((m : Int) < (m : Int)) := by omega
          have HNX : Hid (LF = false) := by show _ = _; rw [← hll, List.drop_of_length_le (by rw [HN.out]; exact Nat.le_refl _), leftL_nil]
          clear hll hb hx HIH HKD
          go_wp2
          refine bodyPost_ret (by simp [results, Try.results12, go_sem]; try rfl) rfl ?_
          rw [HNX.out]
          exact ⟨rfl, HB2.out⟩
theorem leftm_to : ∀ N, LeftM N
  | 0 => fun t p c w hd => absurd hd (by unfold dep; omega)
  | N + 1 => leftm_step N (leftm_to N)

end Go.Proofs.Ytbmkddmmclndcaa
/- AL3, plainly: no alias and no let is left, and what is without them is its own expansion. -/
namespace Go.Proofs.Ytbmkddmmclndcaa
set_option linter.unusedVariables false
set_option linter.unusedSimpArgs false

/-- Expand's answers. -/
theorem exp_cases (t : Nd) : ((expP t).err ≠ 0 ∧ (expP t).tree = noneN) ∨ (checkP t = 0 ∧ outE t = 0 ∧ (faultA (writtenA t)).1 = 0 ∧ checkP (wholeN (writtenA t)) = 0 ∧ expP t = ⟨wholeN (writtenA t), 0, 0⟩) := by
  unfold expP
  by_cases h1 : checkP t = 0
  · rw [if_neg (fun h => h h1)]
    by_cases h2 : outE t = 0
    · rw [if_neg (fun h => h h2)]
      by_cases h3 : (faultA (writtenA t)).1 = 0
      · rw [if_neg (fun h => h h3)]
        by_cases h4 : checkP (wholeN (writtenA t)) = 0
        · rw [if_neg (fun h => h h4)]
          exact .inr ⟨h1, h2, h3, h4, rfl⟩
        · rw [if_pos h4]; exact .inl ⟨h4, rfl⟩
      · rw [if_pos h3]; exact .inl ⟨h3, rfl⟩
    · rw [if_pos h2]; exact .inl ⟨h2, rfl⟩
  · rw [if_pos h1]; exact .inl ⟨h1, rfl⟩
theorem lf_iff (k : Int) (n : ByteArray) : lfQ k n = false ↔ k ≠ 6 ∧ (k = 1 → ∀ r ∈ rowsA, r.name ≠ n) := by
  unfold lfQ
  rw [Bool.or_eq_false_iff, Bool.and_eq_false_imp]
  constructor
  · rintro ⟨h1, h2⟩
    refine ⟨by simpa using h1, fun hk r hr e => ?_⟩
    have h3 := h2 (by simpa using hk)
    rw [List.any_eq_false] at h3
    exact h3 r.name (List.mem_map.2 ⟨r, hr, rfl⟩) (sameB_iff.2 e.symm)
  · rintro ⟨h1, h2⟩
    refine ⟨by simpa using h1, fun hk => ?_⟩
    rw [List.any_eq_false]
    intro x hx hs
    obtain ⟨r, hr, rfl⟩ := List.mem_map.1 hx
    exact h2 (by simpa using hk) r hr (sameB_iff.1 hs).symm
theorem stands_let {t u : Nd} (h : judgeP t (some u) = 0) (hu : u.kind ≠ 6) : t.kind ≠ 6 := by
  have := ((judge_iff t (some u)).1 h).2.2.2
  unfold standsP at this
  simp only [Bool.or_eq_true, bne_iff_ne, beq_iff_eq] at this
  rcases this with h | h
  · exact h
  · exact absurd h hu
theorem free_find {t : Nd} (h : lfQ t.kind t.name = false) : findA t = none := find_no ((lf_iff _ _).1 h).2
end Go.Proofs.Ytbmkddmmclndcaa
/- The reference's Check. -/
namespace Go.Proofs.Ytbmkddmmclndcaa
open Go.RowKit
set_option linter.unusedVariables false
set_option linter.unusedSimpArgs false

end Go.Proofs.Ytbmkddmmclndcaa
/- The statement AliasAgain. (tool/layer12/genagain.py) -/
namespace Go.Proofs.Ytbmkddmmclndcaa
open Go.RowKit
set_option linter.unusedVariables false
set_option linter.unusedSimpArgs false

/-- Expand's contract, its tree's slice opened. -/
theorem expand_to (t : Nd) (p : Option Addr) (c : Nat) (w : World) (hc : cnt t ≤ 40000) (hok : ok1 t) (hk : Kids w anyH (.slice p t.args.length c) t.args) {X : Nd} {e a : Int} (hE : expP t = ⟨X, e, a⟩) :
    Calls Try.prog 9 #[.agg #[.int .i64 t.kind, .string t.name, .int .u32 t.num, .int .i64 t.int_, .string t.key, .slice p t.args.length c, .int .i64 t.at_]] w fun r w' => ∃ p' c', r = .returned (.tuple #[.agg #[.int .i64 X.kind, .string X.name, .int .u32 X.num, .int .i64 X.int_, .string X.key, .slice p' X.args.length c', .int .i64 X.at_], .int .i64 e, .int .i64 a]) ∧ Kids w' anyH (.slice p' X.args.length c') X.args ∧ Below w.heap.size w w' :=
  (expand_any t _ w hc hok hk).mono fun r w' ⟨sv, h1, h2, h3⟩ => by
    rw [hE] at h1 h2
    obtain ⟨p', c', rfl, -⟩ := id h2
    exact ⟨p', c', h1, kids_any h2, h3⟩
theorem twin_to (t : Nd) (p : Option Addr) (c : Nat) (w : World) (hc : cnt t ≤ 40000) (hk : Kids w anyH (.slice p t.args.length c) t.args) :
    Calls Try.prog 10 #[.agg #[.int .i64 t.kind, .string t.name, .int .u32 t.num, .int .i64 t.int_, .string t.key, .slice p t.args.length c, .int .i64 t.at_]] w fun r w' => ∃ p' c', r = .returned (.agg #[.int .i64 t.kind, .string t.name, .int .u32 t.num, .int .i64 t.int_, .string t.key, .slice p' t.args.length c', .int .i64 t.at_]) ∧ Kids w' anyH (.slice p' t.args.length c') t.args ∧ Below w.heap.size w w' :=
  (twinA_to (dep t) t p c w (Nat.le_refl _) hc hk).mono fun r w' ⟨p', n', c', h1, h2, h3⟩ => by
    rw [idN_eq] at h1 h2
    obtain ⟨q, d, hv, -⟩ := id h2
    simp only [Value.slice.injEq] at hv
    obtain ⟨rfl, rfl, rfl⟩ := hv
    exact ⟨p', c', h1, h2.weak (fun _ _ _ _ => trivial), h3⟩
theorem same_at (t : Nd) (p : Option Addr) (c : Nat) (p' : Option Addr) (c' : Nat) (w : World) (hc : cnt t ≤ 100000) (hk : Kids w anyH (.slice p t.args.length c) t.args) (hk' : Kids w anyH (.slice p' t.args.length c') t.args) :
    Calls Try.prog 11 #[.agg #[.int .i64 t.kind, .string t.name, .int .u32 t.num, .int .i64 t.int_, .string t.key, .slice p t.args.length c, .int .i64 t.at_], .agg #[.int .i64 t.kind, .string t.name, .int .u32 t.num, .int .i64 t.int_, .string t.key, .slice p' t.args.length c', .int .i64 t.at_]] w fun e w' => e = .returned (.bool true) ∧ Below w.heap.size w w' := sameA_to (dep t) t p c p' c' w (Nat.le_refl _) hc hk hk'
end Go.Proofs.Ytbmkddmmclndcaa
/- AL3, plainly: a call that is no alias becomes that call with its arguments expanded, each by itself. -/
namespace Go.Proofs.Ytbmkddmmclndcaa
set_option linter.unusedVariables false
set_option linter.unusedSimpArgs false

theorem judge_parent {a b : Nd} (h : a.kind = b.kind) (t : Nd) : judgeP t (some a) = judgeP t (some b) := by
  unfold judgeP keyP standsP
  simp only [h]
theorem jdL_parent {a b : Nd} (h : a.kind = b.kind) : ∀ l : List Nd, jdL (some a) l → jdL (some b) l
  | [], _ => jdL_nil _
  | t :: r, hh => by
    rw [jdL_cons] at hh ⊢
    exact ⟨⟨by rw [← judge_parent h]; exact hh.1.1, hh.1.2⟩, jdL_parent h r hh.2⟩
/-- A node that may stand somewhere may stand by itself, without its Key. -/
theorem jd_free {t : Nd} {u : Option Nd} (h : jd1 u t) : jd1 none (keyN t ⟨#[]⟩) := by
  obtain ⟨h1, h2⟩ := h
  obtain ⟨h3, h4, h5, h6⟩ := (judge_iff t u).1 h1
  exact ⟨(judge_iff _ _).2 ⟨⟨h3.1, z64⟩, key_nil _, h5, rfl⟩, jdL_parent (a := t) (b := keyN t ⟨#[]⟩) rfl _ h2⟩
theorem jdL_get : ∀ {l : List Nd} {u : Option Nd}, jdL u l → ∀ {i : Nat} (hi : i < l.length), jd1 u l[i]
  | [], u, _, i, hi => absurd hi (Nat.not_lt_zero _)
  | t :: r, u, h, i, hi => by
    rw [jdL_cons] at h
    cases i with
    | zero => exact h.1
    | succ i => exact jdL_get h.2 (by simpa using hi)
theorem one_key (t : Nd) (l : List Nd) (y : ByteArray) : oneA (keyN t y) l = keyN (oneA t l) y := by
  unfold oneA
  have : findA (keyN t y) = findA t := rfl
  rw [this]
  cases findA t with
  | none => rfl
  | some r => rfl
theorem whole_keyN (t : Nd) (y : ByteArray) : wholeN (keyN t y) = keyN (wholeN t) y := one_key t _ y
/-- A part by itself. -/
theorem part_exp {t : Nd} {u : Nd} (hu : u.kind ≠ 6) (h : jd1 (some u) t) (hd : dep t ≤ 64) (hc : cnt t ≤ 4096) (hf : (faultA t).1 = 0) {u2 : Option Nd} (h2 : jd1 u2 (wholeN t)) (hd2 : dep (wholeN t) ≤ 64) (hc2 : cnt (wholeN t) ≤ 4096) :
    expP (keyN t ⟨#[]⟩) = ⟨keyN (wholeN t) ⟨#[]⟩, 0, 0⟩ := by
  have hk0 : t.kind ≠ 6 := stands_let h.1 hu
  have hk : (keyN t ⟨#[]⟩).kind ≠ 6 := hk0
  have hck : checkP (keyN t ⟨#[]⟩) = 0 := (check_iff _).2 ⟨meas_of hd hc, jd_free h⟩
  have ho := outE_of hk hd hc
  have hfk : faultA (keyN t ⟨#[]⟩) = faultA t := rfl
  have hcx : checkP (keyN (wholeN t) ⟨#[]⟩) = 0 := (check_iff _).2 ⟨meas_of hd2 hc2, jd_free h2⟩
  unfold expP
  rw [if_neg (fun c => c hck), if_neg (fun c => c ho), written_id hk, hfk, if_neg (fun c => c hf), whole_keyN, if_neg (fun c => c hcx)]
theorem parts_exp {n : Nd} (hl : lfQ n.kind n.name = false) (hck : checkP n = 0) (hfa : (faultA (writtenA n)).1 = 0) (hcx : checkP (wholeN (writtenA n)) = 0) :
    wholeN (writtenA n) = argsN n (wholeL n.args) ∧ ∀ i (h : i < n.args.length), expP (keyN n.args[i] ⟨#[]⟩) = ⟨keyN (wholeN n.args[i]) ⟨#[]⟩, 0, 0⟩ := by
  have hk := ((lf_iff _ _).1 hl).1
  have hw := written_id hk
  have hwh : wholeN n = argsN n (wholeL n.args) := by
    unfold wholeN oneA
    rw [free_find hl]
  rw [hw] at hfa hcx ⊢
  refine ⟨hwh, fun i hi => ?_⟩
  obtain ⟨hm, hj⟩ := (check_iff _).1 hck
  obtain ⟨hd, hc⟩ := (meas_iff _).1 hm
  obtain ⟨hm2, hj2⟩ := (check_iff _).1 hcx
  obtain ⟨hd2, hc2⟩ := (meas_iff _).1 hm2
  have hi2 : i < (wholeL n.args).length := by rw [wholeL_len]; exact hi
  have e : (wholeL n.args)[i] = wholeN n.args[i] := by
    have := List.getElem_map wholeN (l := n.args) (i := i) (h := by simpa using hi)
    rw [← this]
    congr 1
    exact wholeL_map n.args
  have hj3 := jdL_get hj2.2 (i := i) (by rw [hwh]; exact hi2)
  have e3 : (wholeN n).args[i]'(by rw [hwh]; exact hi2) = wholeN n.args[i] := by
    rw [← e]
    congr 1
    rw [hwh]; rfl
  rw [e3] at hj3
  have g1 := dep_get hi
  have g2 := cnt_get hi
  have g3 := dep_get hi2
  have g4 := cnt_get hi2
  rw [e] at g3 g4
  have hwd : dep (wholeN n) = depL (wholeL n.args) + 1 := by rw [hwh]; rfl
  have hwc : cnt (wholeN n) = 1 + cntL (wholeL n.args) := by rw [hwh]; rfl
  refine part_exp hk (jdL_get hj.2 hi) ?_ ?_ (faultAL_get (fault_parts hfa).2 hi) hj3 ?_ ?_
  · unfold dep at hd g1 ⊢; omega
  · unfold cnt at hc g2 ⊢; omega
  · omega
  · omega

end Go.Proofs.Ytbmkddmmclndcaa
