import Derived.Test.YtmiidhgbdecdkaaPart24
import Derived.Test.YtmiidhgbdecdkaaPart5
import Derived.Test.YtmiidhgbdecdkaaPart20
import Derived.Test.YtmiidhgbdecdkaaPart22
import Derived.Test.YtmiidhgbdecdkaaPart3
namespace Go.Proofs.Ytmiidhgbdecdkaa
open Go.RowKit
set_option linter.unusedVariables false
set_option linter.unusedSimpArgs false
theorem sgdok : ok1 sgdW := by
 refine ⟨⟨by decide, by decide, by decide, by decide⟩, (okL_cons _ _).2 ⟨⟨⟨by decide, by decide, by decide, by decide⟩, okL_nil⟩, okL_nil⟩⟩
theorem chainok : ok1 chainW := by
 refine ⟨⟨by decide, by decide, by decide, by decide⟩, (okL_cons _ _).2 ⟨⟨⟨by decide, by decide, by decide, by decide⟩, okL_nil⟩, okL_nil⟩⟩
theorem adamok : ok1 adamW := ⟨⟨by decide, by decide, by decide, by decide⟩, okL_nil⟩
theorem kids_any {w : World} {S : Blk} {v : Value} {l : List Nd} (h : Kids w (inH S) v l) : Kids w anyH v l := h.weak fun _ _ _ _ => trivial
set_option maxRecDepth 100000 in
set_option maxHeartbeats 4000000 in
theorem works_any (w : World) :
  Calls Try.prog 8 #[] w fun e w' => e = .returned (.bool true) ∧ Below w.heap.size w w' := by
 obtain ⟨A, B, hA, hB, hE1⟩ := exp_sgd
 have HX1 : Hid (∀ (G : Nat) (x : World), Kids x anyH (.slice (some ⟨G, 0, none⟩) 1 1) [rateW] → Calls Try.prog 9 #[.agg #[.int .i64 1, .string ⟨#[115, 103, 100]⟩, .int .u32 0, .int .i64 0, .string ⟨#[]⟩, .slice (some ⟨G, 0, none⟩) 1 1, .int .i64 0]] x fun e w' => ∃ b c, e = .returned (.tuple #[.agg #[.int .i64 1, .string ⟨#[99, 104, 97, 105, 110]⟩, .int .u32 0, .int .i64 0, .string ⟨#[]⟩, .slice (some ⟨b, 0, none⟩) 2 c, .int .i64 0], .int .i64 0, .int .i64 0]) ∧ (w'.cell? ⟨b, 1, none⟩ = some (.string ⟨#[116, 114, 97, 99, 101]⟩) ∧ w'.cell? ⟨b, 8, none⟩ = some (.string ⟨#[115, 99, 97, 108, 101]⟩)) ∧ Below x.heap.size x w') := fun G x hx => by
  refine (expand_any sgdW _ x (by rw [cnt_sgd]; decide) sgdok hx).mono fun e w' ⟨sv, h1, h2, h3⟩ => ?_
  rw [hE1] at h1 h2
  obtain ⟨p, c, rfl, hq, hk⟩ := h2
  rcases hk with hk | ⟨b, o, rfl, hk⟩
  ·cases hk
  ·rcases hq with ⟨hh, -⟩ | ⟨b2, hh, -, -⟩
   ·cases hh
   ·simp only [Option.some.injEq, Addr.mk.injEq] at hh
    obtain ⟨rfl, rfl, -⟩ := hh
    rw [KA_cons, KA_cons] at hk
    refine ⟨b, c, h1, ⟨?_, ?_⟩, h3⟩
    ·have := hk.1.2.1; rw [hA] at this; exact this
    ·have := hk.2.1.2.1; rw [hB] at this; exact this
 have HX2 : Hid (∀ (G2 : Nat) (x : World), Kids x anyH (.slice (some ⟨G2, 0, none⟩) 1 1) [rateW] → Calls Try.prog 9 #[.agg #[.int .i64 1, .string ⟨#[99, 104, 97, 105, 110]⟩, .int .u32 0, .int .i64 0, .string ⟨#[]⟩, .slice (some ⟨G2, 0, none⟩) 1 1, .int .i64 0]] x fun e w' => ∃ p2 c2, e = .returned (.tuple #[.agg #[.int .i64 1, .string ⟨#[99, 104, 97, 105, 110]⟩, .int .u32 0, .int .i64 0, .string ⟨#[]⟩, .slice p2 1 c2, .int .i64 0], .int .i64 0, .int .i64 0]) ∧ Below x.heap.size x w') := fun G x hx => by
  refine (expand_any chainW _ x (by rw [cnt_chain]; decide) chainok hx).mono fun e w' ⟨sv, h1, h2, h3⟩ => ?_
  rw [exp_chain] at h1 h2
  obtain ⟨p, c, rfl, -⟩ := h2
  exact ⟨p, c, h1, h3⟩
 have HX3 : Hid (∀ (x : World), Calls Try.prog 9 #[.agg #[.int .i64 1, .string ⟨#[97, 100, 97, 109]⟩, .int .u32 0, .int .i64 0, .string ⟨#[]⟩, .slice none 0 0, .int .i64 0]] x fun e w' => ∃ p3 c3, e = .returned (.tuple #[.agg #[.int .i64 0, .string ⟨#[]⟩, .int .u32 0, .int .i64 0, .string ⟨#[]⟩, .slice p3 0 c3, .int .i64 0], .int .i64 131, .int .i64 0]) ∧ Below x.heap.size x w') := fun x => by
  refine (expand_any adamW (.slice none 0 0) x (by rw [cnt_adam]; decide) adamok ⟨none, 0, rfl, trivial, .inl rfl⟩).mono fun e w' ⟨sv, h1, h2, h3⟩ => ?_
  rw [exp_adam] at h1 h2
  obtain ⟨p, c, rfl, -⟩ := h2
  exact ⟨p, c, h1, h3⟩
 clear hA hB hE1
 obtain ⟨W, hW, hX, hB0, hs⟩ := new_box w
 obtain ⟨⟨g0, g1, g2, g3, g4, g5, g6⟩, f0, f1, f2, f3, f4, f5, f6⟩ := sevenA hX
 have HW := hidM hX
 have HB0 := hidM hB0
 clear hX hB0 hs
 go_enter Try.func8, Try.ntmps8
 go_upto_region 2 with fail
 have hx1 := put_sevenA HW.out (.int .i64 2) (.string ⟨#[]⟩) (.int .u32 1036831949) (.int .i64 0) (.string ⟨#[]⟩) (.slice none 0 0) (.int .i64 4)
 have hb1 := below_seven HB0.out (.int .i64 2) (.string ⟨#[]⟩) (.int .u32 1036831949) (.int .i64 0) (.string ⟨#[]⟩) (.slice none 0 0) (.int .i64 4)
 obtain ⟨U1, hU1⟩ : ∃ UU, (((((((W.setCell ⟨w.heap.size, 0, none⟩ (.int .i64 2)).setCell ⟨w.heap.size, 1, none⟩ (.string ⟨#[]⟩)).setCell ⟨w.heap.size, 2, none⟩ (.int .u32 1036831949)).setCell ⟨w.heap.size, 3, none⟩ (.int .i64 0)).setCell ⟨w.heap.size, 4, none⟩ (.string ⟨#[]⟩)).setCell ⟨w.heap.size, 5, none⟩ (.slice none 0 0)).setCell ⟨w.heap.size, 6, none⟩ (.int .i64 4)) = UU := ⟨_, rfl⟩
 rw [hU1] at hx1 hb1 ⊢
 have HR1 := hidM hx1
 have HB1 := hidM hb1
 clear hU1 hW g0 g1 g2 g3 g4 g5 g6 f0 f1 f2 f3 f4 f5 f6
 obtain ⟨⟨g0, g1, g2, g3, g4, g5, g6⟩, -⟩ := sevenA hx1
 clear hx1 hb1
 obtain ⟨U2, hU2⟩ : ∃ UU, U1.alloc (.cells #[.int .i64 2, .string ⟨#[]⟩, .int .u32 1036831949, .int .i64 0, .string ⟨#[]⟩, .slice none 0 0, .int .i64 4] 26) = UU := ⟨_, rfl⟩
 have hk2 := kids_row (w := U1) (S := fun j => j = U1.heap.size) (R := [(rateW, .slice none 0 0)]) (cs := #[.int .i64 2, .string ⟨#[]⟩, .int .u32 1036831949, .int .i64 0, .string ⟨#[]⟩, .slice none 0 0, .int .i64 4]) rfl (fun r hr => by rw [List.mem_singleton.1 hr]; exact kids_none _ _) rfl (by decide)
 have hb2 := bel_alloc U1 (.cells #[.int .i64 2, .string ⟨#[]⟩, .int .u32 1036831949, .int .i64 0, .string ⟨#[]⟩, .slice none 0 0, .int .i64 4] 26)
 rw [hU2] at hk2 hb2
 have HK2 : Hid (Kids U2 anyH (.slice (some ⟨U1.heap.size, 0, none⟩) 1 1) [rateW]) := kids_any hk2
 have HB2 : Hid (Below w.heap.size w U2) := bel HB1.out hb2
 have HR2 : Hid (U2.heap[w.heap.size]? = some (.cells #[.int .i64 2, .string ⟨#[]⟩, .int .u32 1036831949, .int .i64 0, .string ⟨#[]⟩, .slice none 0 0, .int .i64 4] 26)) := (hb2.block _ (hlt HR1.out)).trans HR1.out
 clear hk2 hb2
 obtain ⟨W3, hW3, hX3, hB3, -⟩ := new_box U2
 obtain ⟨⟨q0, q1, q2, q3, q4, q5, q6⟩, r0, r1, r2, r3, r4, r5, r6⟩ := sevenA hX3
 have HX3b := hidM hX3
 have HB3 := hidM hB3
 clear hX3 hB3
 go_upto_region 3 with fail
 obtain ⟨G, hG⟩ : ∃ G, U1.heap.size = G := ⟨_, rfl⟩
 rw [hG] at HK2 ⊢
 have hx3 := put_sevenA HX3b.out (.int .i64 1) (.string ⟨#[115, 103, 100]⟩) (.int .u32 0) (.int .i64 0) (.string ⟨#[]⟩) (.slice (some ⟨G, 0, none⟩) 1 1) (.int .i64 0)
 have hb3 := below_seven HB3.out (.int .i64 1) (.string ⟨#[115, 103, 100]⟩) (.int .u32 0) (.int .i64 0) (.string ⟨#[]⟩) (.slice (some ⟨G, 0, none⟩) 1 1) (.int .i64 0)
 obtain ⟨U3, hU3⟩ : ∃ UU, (((((((W3.setCell ⟨U2.heap.size, 0, none⟩ (.int .i64 1)).setCell ⟨U2.heap.size, 1, none⟩ (.string ⟨#[115, 103, 100]⟩)).setCell ⟨U2.heap.size, 2, none⟩ (.int .u32 0)).setCell ⟨U2.heap.size, 3, none⟩ (.int .i64 0)).setCell ⟨U2.heap.size, 4, none⟩ (.string ⟨#[]⟩)).setCell ⟨U2.heap.size, 5, none⟩ (.slice (some ⟨G, 0, none⟩) 1 1)).setCell ⟨U2.heap.size, 6, none⟩ (.int .i64 0)) = UU := ⟨_, rfl⟩
 rw [hU3] at hx3 hb3 ⊢
 have HK3 : Hid (Kids U3 anyH (.slice (some ⟨G, 0, none⟩) 1 1) [rateW]) := HK2.out.below hb3
 have HB3w : Hid (Below w.heap.size w U3) := bel HB2.out hb3
 have HR3 : Hid (U3.heap[w.heap.size]? = some (.cells #[.int .i64 2, .string ⟨#[]⟩, .int .u32 1036831949, .int .i64 0, .string ⟨#[]⟩, .slice none 0 0, .int .i64 4] 26)) := (hb3.block _ (hlt HR2.out)).trans HR2.out
 obtain ⟨O, hO⟩ : ∃ O, U2.heap.size = O := ⟨_, rfl⟩
 rw [hO] at hx3 ⊢
 clear g0 g1 g2 g3 g4 g5 g6 q0 q1 q2 q3 q4 q5 q6 r0 r1 r2 r3 r4 r5 r6 hU3 hU2 hG hW3 hO hb3 HX3b HB3 HB0 HW
 obtain ⟨⟨q0, q1, q2, q3, q4, q5, q6⟩, -⟩ := sevenA hx3
 clear hx3
 go_upto_region 4 with (go_at_call 9; (with_reducible refine (HX1.out _ _ HK3.out).mono ?_); rintro e v1 ⟨b1, c1, rfl, ⟨hn1, hn8⟩, hb1⟩; have HN1 : Hid (v1.cell? ⟨b1, 1, none⟩ = some (.string ⟨#[116, 114, 97, 99, 101]⟩) ∧ v1.cell? ⟨b1, 8, none⟩ = some (.string ⟨#[115, 99, 97, 108, 101]⟩)) := ⟨hn1, hn8⟩; have HB4 : Hid (Below w.heap.size w v1) := bel HB3w.out hb1; have HR4 : Hid (v1.heap[w.heap.size]? = some (.cells #[.int .i64 2, .string ⟨#[]⟩, .int .u32 1036831949, .int .i64 0, .string ⟨#[]⟩, .slice none 0 0, .int .i64 4] 26)) := (hb1.block _ (hlt HR3.out)).trans HR3.out; clear hn1 hn8 hb1; obtain ⟨W5, hW5, hX5, hB5, -⟩ := new_box v1; obtain ⟨⟨s0, s1, s2, s3, s4, s5, s6⟩, r0, r1, r2, r3, r4, r5, r6⟩ := sevenA hX5; have HX5 := hidM hX5; have HB5 := hidM hB5; clear hX5 hB5)
 have hx5 := put_sevenA HX5.out (.int .i64 1) (.string ⟨#[99, 104, 97, 105, 110]⟩) (.int .u32 0) (.int .i64 0) (.string ⟨#[]⟩) (.slice (some ⟨b1, 0, none⟩) 2 c1) (.int .i64 0)
 have hb5 := below_seven HB5.out (.int .i64 1) (.string ⟨#[99, 104, 97, 105, 110]⟩) (.int .u32 0) (.int .i64 0) (.string ⟨#[]⟩) (.slice (some ⟨b1, 0, none⟩) 2 c1) (.int .i64 0)
 obtain ⟨U5, hU5⟩ : ∃ UU, (((((((W5.setCell ⟨v1.heap.size, 0, none⟩ (.int .i64 1)).setCell ⟨v1.heap.size, 1, none⟩ (.string ⟨#[99, 104, 97, 105, 110]⟩)).setCell ⟨v1.heap.size, 2, none⟩ (.int .u32 0)).setCell ⟨v1.heap.size, 3, none⟩ (.int .i64 0)).setCell ⟨v1.heap.size, 4, none⟩ (.string ⟨#[]⟩)).setCell ⟨v1.heap.size, 5, none⟩ (.slice (some ⟨b1, 0, none⟩) 2 c1)).setCell ⟨v1.heap.size, 6, none⟩ (.int .i64 0)) = UU := ⟨_, rfl⟩
 rw [hU5] at hx5 hb5 ⊢
 have HB5w : Hid (Below w.heap.size w U5) := bel HB4.out hb5
 have HR5 : Hid (U5.heap[w.heap.size]? = some (.cells #[.int .i64 2, .string ⟨#[]⟩, .int .u32 1036831949, .int .i64 0, .string ⟨#[]⟩, .slice none 0 0, .int .i64 4] 26)) := (hb5.block _ (hlt HR4.out)).trans HR4.out
 have HN5 : Hid (U5.cell? ⟨b1, 1, none⟩ = some (.string ⟨#[116, 114, 97, 99, 101]⟩) ∧ U5.cell? ⟨b1, 8, none⟩ = some (.string ⟨#[115, 99, 97, 108, 101]⟩)) := ⟨(hb5.cell (mcell_lt HN1.out.1)).trans HN1.out.1, (hb5.cell (mcell_lt HN1.out.2)).trans HN1.out.2⟩
 obtain ⟨O1, hO1⟩ : ∃ O, v1.heap.size = O := ⟨_, rfl⟩
 rw [hO1] at hx5 ⊢
 have HA5 := hidM hx5
 clear q0 q1 q2 q3 q4 q5 q6 s0 s1 s2 s3 s4 s5 s6 r0 r1 r2 r3 r4 r5 r6 hU5 hW5 hO1 hb5 hx5 HX5 HB5 HN1 HR4 HB4 HX1
 obtain ⟨⟨g0, g1, g2, g3, g4, g5, g6⟩, -⟩ := sevenA HR5.out
 obtain ⟨U6, hU6⟩ : ∃ UU, U5.alloc (.cells #[.int .i64 2, .string ⟨#[]⟩, .int .u32 1036831949, .int .i64 0, .string ⟨#[]⟩, .slice none 0 0, .int .i64 4] 26) = UU := ⟨_, rfl⟩
 have hk6 := kids_row (w := U5) (S := fun j => j = U5.heap.size) (R := [(rateW, .slice none 0 0)]) (cs := #[.int .i64 2, .string ⟨#[]⟩, .int .u32 1036831949, .int .i64 0, .string ⟨#[]⟩, .slice none 0 0, .int .i64 4]) rfl (fun r hr => by rw [List.mem_singleton.1 hr]; exact kids_none _ _) rfl (by decide)
 have hb6 := bel_alloc U5 (.cells #[.int .i64 2, .string ⟨#[]⟩, .int .u32 1036831949, .int .i64 0, .string ⟨#[]⟩, .slice none 0 0, .int .i64 4] 26)
 rw [hU6] at hk6 hb6
 have HK6 : Hid (Kids U6 anyH (.slice (some ⟨U5.heap.size, 0, none⟩) 1 1) [rateW]) := kids_any hk6
 have HB6 : Hid (Below U5.heap.size U5 U6) := hb6
 clear hk6 hb6
 go_upto_region 5 with (go_at_call 9; (with_reducible refine (HX2.out _ _ HK6.out).mono ?_); rintro e v2 ⟨p2, c2, rfl, hb2⟩; have HB7 : Hid (Below U5.heap.size U5 v2) := bel HB6.out hb2; clear hb2; obtain ⟨W7, hW7, hX7, hB7, -⟩ := new_box v2; obtain ⟨⟨s0, s1, s2, s3, s4, s5, s6⟩, r0, r1, r2, r3, r4, r5, r6⟩ := sevenA hX7; have HX7 := hidM hX7; have HB7b := hidM hB7; clear hX7 hB7)
 have hx7 := put_sevenA HX7.out (.int .i64 1) (.string ⟨#[99, 104, 97, 105, 110]⟩) (.int .u32 0) (.int .i64 0) (.string ⟨#[]⟩) (.slice p2 1 c2) (.int .i64 0)
 have hb7 := below_seven HB7b.out (.int .i64 1) (.string ⟨#[99, 104, 97, 105, 110]⟩) (.int .u32 0) (.int .i64 0) (.string ⟨#[]⟩) (.slice p2 1 c2) (.int .i64 0)
 obtain ⟨U7, hU7⟩ : ∃ UU, (((((((W7.setCell ⟨v2.heap.size, 0, none⟩ (.int .i64 1)).setCell ⟨v2.heap.size, 1, none⟩ (.string ⟨#[99, 104, 97, 105, 110]⟩)).setCell ⟨v2.heap.size, 2, none⟩ (.int .u32 0)).setCell ⟨v2.heap.size, 3, none⟩ (.int .i64 0)).setCell ⟨v2.heap.size, 4, none⟩ (.string ⟨#[]⟩)).setCell ⟨v2.heap.size, 5, none⟩ (.slice p2 1 c2)).setCell ⟨v2.heap.size, 6, none⟩ (.int .i64 0)) = UU := ⟨_, rfl⟩
 rw [hU7] at hx7 hb7 ⊢
 have HB7w : Hid (Below U5.heap.size U5 U7) := bel HB7.out hb7
 obtain ⟨O2, hO2⟩ : ∃ O, v2.heap.size = O := ⟨_, rfl⟩
 rw [hO2] at hx7 ⊢
 have HA7 := hidM hx7
 clear g0 g1 g2 g3 g4 g5 g6 s0 s1 s2 s3 s4 s5 s6 r0 r1 r2 r3 r4 r5 r6 hU7 hW7 hO2 hb7 hx7 HX7 HB7b HB7 HX2 hU6 HK6 HB6
 go_upto_region 6 with (go_at_call 9; (with_reducible refine (HX3.out _).mono ?_); rintro e v3 ⟨p3, c3, rfl, hb3⟩; have HB8 : Hid (Below U7.heap.size U7 v3) := hb3; clear hb3; obtain ⟨W9, hW9, hX9, hB9, -⟩ := new_box v3; obtain ⟨⟨s0, s1, s2, s3, s4, s5, s6⟩, r0, r1, r2, r3, r4, r5, r6⟩ := sevenA hX9; have HB9 := hidM hB9; clear hX9 hB9)
 have hb9 := below_seven HB9.out (.int .i64 0) (.string ⟨#[]⟩) (.int .u32 0) (.int .i64 0) (.string ⟨#[]⟩) (.slice p3 0 c3) (.int .i64 0)
 obtain ⟨U9, hU9⟩ : ∃ UU, (((((((W9.setCell ⟨v3.heap.size, 0, none⟩ (.int .i64 0)).setCell ⟨v3.heap.size, 1, none⟩ (.string ⟨#[]⟩)).setCell ⟨v3.heap.size, 2, none⟩ (.int .u32 0)).setCell ⟨v3.heap.size, 3, none⟩ (.int .i64 0)).setCell ⟨v3.heap.size, 4, none⟩ (.string ⟨#[]⟩)).setCell ⟨v3.heap.size, 5, none⟩ (.slice p3 0 c3)).setCell ⟨v3.heap.size, 6, none⟩ (.int .i64 0)) = UU := ⟨_, rfl⟩
 rw [hU9] at hb9 ⊢
 have h79 := bel HB8.out hb9
 have h59 := bel HB7w.out h79
 have HBE : Hid (Below w.heap.size w U9) := bel HB5w.out h59
 clear s0 s1 s2 s3 s4 s5 s6 r0 r1 r2 r3 r4 r5 r6 hU9 hW9 hb9 HX3 HB9 HB8
 obtain ⟨⟨g0, g1, g2, g3, g4, g5, g6⟩, -⟩ := sevenA ((h59.block _ (hlt HA5.out)).trans HA5.out)
 obtain ⟨⟨q0, q1, q2, q3, q4, q5, q6⟩, -⟩ := sevenA ((h79.block _ (hlt HA7.out)).trans HA7.out)
 have n1 := (h59.cell (mcell_lt HN5.out.1)).trans HN5.out.1
 have n8 := (h59.cell (mcell_lt HN5.out.2)).trans HN5.out.2
 clear h79 h59
 go_wp2
 refine bodyPost_ret (by simp [results, Try.results8, go_sem]; try rfl) rfl ?_
 exact ⟨rfl, HBE.out⟩
end Go.Proofs.Ytmiidhgbdecdkaa
namespace Go.Proofs.Ytmiidhgbdecdkaa
open Go.RowKit
set_option linter.unusedVariables false
set_option linter.unusedSimpArgs false
end Go.Proofs.Ytmiidhgbdecdkaa
namespace Go.Proofs.Ytmiidhgbdecdkaa
set_option linter.unusedVariables false
set_option linter.unusedSimpArgs false
theorem stands_let {t u : Nd} (h : judgeP t (some u) = 0) (hu : u.kind ≠ 6) : t.kind ≠ 6 := by
 have := ((judge_iff t (some u)).1 h).2.2.2
 unfold standsP at this
 simp only [Bool.or_eq_true, bne_iff_ne, beq_iff_eq] at this
 rcases this with h | h
 ·exact h
 ·exact absurd h hu
end Go.Proofs.Ytmiidhgbdecdkaa
namespace Go.Proofs.Ytmiidhgbdecdkaa
set_option linter.unusedVariables false
set_option linter.unusedSimpArgs false
theorem judge_parent {a b : Nd} (h : a.kind = b.kind) (t : Nd) : judgeP t (some a) = judgeP t (some b) := by
 unfold judgeP keyP standsP
 simp only [h]
theorem jdL_parent {a b : Nd} (h : a.kind = b.kind) : ∀ l : List Nd, jdL (some a) l → jdL (some b) l
 | [], _ => jdL_nil _
 | t :: r, hh => by
  rw [jdL_cons] at hh ⊢
  exact ⟨⟨by rw [← judge_parent h]; exact hh.1.1, hh.1.2⟩, jdL_parent h r hh.2⟩
theorem jd_free {t : Nd} {u : Option Nd} (h : jd1 u t) : jd1 none (keyN t ⟨#[]⟩) := by
 obtain ⟨h1, h2⟩ := h
 obtain ⟨h3, h4, h5, h6⟩ := (judge_iff t u).1 h1
 exact ⟨(judge_iff _ _).2 ⟨⟨h3.1, z64⟩, key_nil _, h5, rfl⟩, jdL_parent (a := t) (b := keyN t ⟨#[]⟩) rfl _ h2⟩
end Go.Proofs.Ytmiidhgbdecdkaa
namespace Go.Proofs.Ytmiidhgbdecdkaa
set_option linter.unusedVariables false
set_option linter.unusedSimpArgs false
theorem strip_place (t : Nd) (a : Int) : strip (placeN t a) = strip t := by
 have key : ∀ l : List Nd, stripL (placeL a l) = stripL l := by
  apply forest
  ·rw [placeL_nil]
  ·intro t r h1 h2
   rw [placeL_cons, stripL_cons, stripL_cons, h2]
   congr 1
   unfold strip placeN
   simp only [h1]
 unfold strip placeN
 simp only [key]
theorem strip_bind {l : List Nd} : bindsP (stripL l) = bindsP l := by
 match l with
 | [] => rw [stripL_nil]
 | [v] => rw [stripL_cons, stripL_nil]; rfl
 | [v, r] => rw [stripL_cons, stripL_cons, stripL_nil]; rfl
 | v :: r :: x :: l => rw [stripL_cons, stripL_cons, stripL_cons]; rfl
theorem strip_judge (t : Nd) (u : Option Nd) : judgeP (strip t) (u.map strip) = judgeP t u := by
 have hk : kindP (strip t) = kindP t := by
  unfold kindP
  have h1 : (strip t).args = stripL t.args := rfl
  rw [h1, strip_bind, stripL_len]
  rfl
 have hy : keyP (strip t).key (u.map strip) = keyP t.key u := by cases u <;> rfl
 have hs : standsP (strip t).kind (u.map strip) = standsP t.kind u := by cases u <;> rfl
 unfold judgeP
 rw [hk, hy, hs]
 rfl
theorem strip_jdL : ∀ (l : List Nd) (u : Option Nd), jdL (u.map strip) (stripL l) ↔ jdL u l := by
 apply forest (P := fun l => ∀ (u : Option Nd), jdL (u.map strip) (stripL l) ↔ jdL u l)
 ·intro u; rw [stripL_nil]; simp [jdL_nil]
 ·intro t r h1 h2 u
  rw [stripL_cons, jdL_cons, jdL_cons, h2]
  unfold jd1
  rw [strip_judge]
  have := h1 (some t)
  simp only [Option.map_some] at this
  show (_ ∧ jdL (some (strip t)) (stripL t.args)) ∧ _ ↔ _
  rw [this]
end Go.Proofs.Ytmiidhgbdecdkaa
namespace Go.Proofs.Ytmiidhgbdecdkaa
set_option linter.unusedVariables false
set_option linter.unusedSimpArgs false
section
variable (nm : ByteArray) (v : Nd)
theorem kind_args {t : Nd} {l : List Nd} (hk : t.kind ≠ 6) (hl : l.length = t.args.length) : kindP (argsN t l) = kindP t := by
 unfold kindP
 have h1 : (argsN t l).kind = t.kind := rfl
 have h2 : (argsN t l).args.length = t.args.length := hl
 rw [h1, h2]
 by_cases a1 : t.kind = 1
 ·rw [if_pos a1, if_pos a1]; rfl
 ·rw [if_neg a1, if_neg a1]
  by_cases a2 : t.kind = 2
  ·rw [if_pos a2, if_pos a2]; rfl
  ·rw [if_neg a2, if_neg a2]
   by_cases a3 : t.kind = 3
   ·rw [if_pos a3, if_pos a3]; rfl
   ·rw [if_neg a3, if_neg a3]
    by_cases a4 : t.kind = 4
    ·rw [if_pos a4, if_pos a4]; rfl
    ·rw [if_neg a4, if_neg a4]
     by_cases a5 : t.kind = 5
     ·rw [if_pos a5, if_pos a5]; rfl
     ·rw [if_neg a5, if_neg a5, if_neg hk, if_neg hk]
variable {nm v}
end
end Go.Proofs.Ytmiidhgbdecdkaa
namespace Go.Proofs.Ytmiidhgbdecdkaa
set_option linter.unusedVariables false
set_option linter.unusedSimpArgs false
def callD : Nd := ⟨1, ⟨#[97]⟩, 0, 0, ⟨#[]⟩, [], 0⟩
def gd1 (t : Nd) : Prop := jd1 (some callD) t
def gdL (l : List Nd) : Prop := jdL (some callD) l
theorem gdL_nil : gdL [] := jdL_nil _
theorem gdL_cons (t : Nd) (r : List Nd) : gdL (t :: r) ↔ gd1 t ∧ gdL r := jdL_cons _ t r
theorem gdL_mem : ∀ {l : List Nd}, gdL l ↔ ∀ x ∈ l, gd1 x
 | [] => by simp [gdL_nil]
 | t :: r => by rw [gdL_cons, gdL_mem (l := r)]; simp
theorem gdL_to {u : Nd} {l : List Nd} (hu : u.kind = 1) (h : gdL l) : jdL (some u) l := jdL_parent (a := callD) (b := u) (by rw [hu]; rfl) l h
theorem gdL_of {u : Nd} {l : List Nd} (hu : u.kind = 1) (h : jdL (some u) l) : gdL l := jdL_parent (a := u) (b := callD) (by rw [hu]; rfl) l h
theorem made_nm : ∀ nm ∈ madeNm, nm.size ≤ 64 ∧ nameP nm = true := by decide +kernel
theorem gd_made {nm : ByteArray} (hm : nm ∈ madeNm) (a : Int) {l : List Nd} (hl : gdL l) : gd1 (madeN a nm l) := jd_call (made_nm nm hm).1 (made_nm nm hm).2 (gdL_to rfl hl)
theorem gd_call {nm : ByteArray} (hm : nm ∈ madeNm) {l : List Nd} (hl : gdL l) : gd1 (callA nm l) := jd_call (made_nm nm hm).1 (made_nm nm hm).2 (gdL_to rfl hl)
theorem gd_num {x : Int} (a : Int) (h : finP x = true) : gd1 ⟨2, ⟨#[]⟩, x, 0, ⟨#[]⟩, [], a⟩ := jd_num h
theorem gd_flag (a : Int) : gd1 ⟨4, ⟨#[102, 97, 108, 115, 101]⟩, 0, 0, ⟨#[]⟩, [], a⟩ := by
 refine ⟨(judge_iff _ _).2 ⟨⟨by show (⟨#[102, 97, 108, 115, 101]⟩ : ByteArray).size ≤ 64; decide, z64⟩, key_nil _, ?_, stands_no (by show (4 : Int) ≠ 6; decide) _⟩, jdL_nil _⟩
 have : nameP ⟨#[102, 97, 108, 115, 101]⟩ = true := by decide +kernel
 unfold kindP novP
 simp [this]
theorem strip_gd {t u : Nd} (h : strip t = strip u) : gd1 t → gd1 u := fun ht => by
 have h1 := (strip_jdL [t] (some callD)).2 ((jdL_cons _ _ _).2 ⟨ht, jdL_nil _⟩)
 rw [stripL_cons, stripL_nil, h] at h1
 have h2 : jdL ((some callD).map strip) (stripL [u]) := by rw [stripL_cons, stripL_nil]; exact h1
 exact ((jdL_cons _ _ _).1 ((strip_jdL [u] (some callD)).1 h2)).1
theorem gd_place {t : Nd} (a : Int) (h : gd1 t) : gd1 (placeN t a) := strip_gd (strip_place ..).symm h
theorem gd_key {t : Nd} (h : gd1 t) : gd1 (keyN t ⟨#[]⟩) := by
 obtain ⟨h3, h4, h5, h6⟩ := (judge_iff t _).1 h.1
 exact ⟨(judge_iff _ _).2 ⟨⟨h3.1, z64⟩, key_nil _, h5, h6⟩, jdL_parent (a := t) (b := keyN t ⟨#[]⟩) rfl _ h.2⟩
theorem gd_keyed {t : Nd} {y : ByteArray} (h : gd1 t) (hs : y.size ≤ 64) (hy : keyP y (some callD) = true) : gd1 (keyN t y) := by
 obtain ⟨h3, h4, h5, h6⟩ := (judge_iff t _).1 h.1
 exact ⟨(judge_iff _ _).2 ⟨⟨h3.1, hs⟩, hy, h5, h6⟩, jdL_parent (a := t) (b := keyN t y) rfl _ h.2⟩
theorem gd_ix {l : List Nd} (h : gdL l) {i : Nat} (hi : i < l.length) : gd1 (ix l i) := by
 unfold ix
 rw [List.getD_eq_getElem?_getD, List.getElem?_eq_getElem hi]
 exact gdL_mem.1 h _ (List.getElem_mem hi)
theorem fin_neg {x : Int} (h0 : 0 ≤ x) (h1 : x < 4294967296) (h : finP x = true) : finP (fneg x) = true := by
 have hn : nan x = false := by
  unfold finP at h
  unfold nan
  simp only [decide_eq_true_eq] at h
  simp
  omega
 rw [fneg_num x h0 h1 hn]
 unfold finP at h ⊢
 unfold flip
 simp only [decide_eq_true_eq] at h ⊢
 repeat' split
 all_goals omega
theorem gd_fill : ∀ (w : List Nat) (l a : List Nd), w.length ≤ l.length → gdL l → (∀ i (h : i < a.length), 0 ∉ w ∨ 0 < i → gd1 a[i]) → gdL (fillA w l a)
 | [], l, a, _, _, ha => by
  rw [show fillA [] l a = a by simp [fillA]]
  exact gdL_mem.2 fun x hx => by
   obtain ⟨i, hi, rfl⟩ := List.mem_iff_getElem.1 hx
   exact ha i hi (.inl (by simp))
 | k :: w, [], a, hw, _, _ => by simp at hw
 | k :: w, x :: l, a, hw, hl, ha => by
  rw [gdL_cons] at hl
  rw [fillA]
  refine gd_fill w l _ (by simpa using hw) hl.2 fun i hi hh => ?_
  rw [List.getElem_set]
  by_cases c : k = i
  ·rw [if_pos c]; exact gd_key hl.1
  ·rw [if_neg c]
   refine ha i (by simpa using hi) ?_
   rcases hh with hh | hh
   ·by_cases c0 : i = 0
    ·left
     intro hm
     rcases List.mem_cons.1 hm with e | e
     ·omega
     ·exact hh e
    ·right; omega
   ·exact .inr hh
theorem vals_gd : ∀ r ∈ rowsA, r.vals.length = r.args.length ∧ 0 < r.vals.length ∧ ∀ i (h : i < r.vals.length), 0 < i → gd1 r.vals[i] := by
 intro r hr
 have hn : ∀ x : Int, finP x = true → gd1 (numN x) := fun x h => gd_num 0 h
 have hf : gd1 (flagN ⟨#[102, 97, 108, 115, 101]⟩) := gd_flag 0
 have ha : gd1 (callA ⟨#[97, 108, 108]⟩ []) := gd_call (by simp [madeNm]) gdL_nil
 simp only [rowsA, List.mem_cons, List.not_mem_nil, or_false] at hr
 have key : ∀ (x : Nd) (l : List Nd), gdL l → ∀ i (h : i < (x :: l).length), 0 < i → gd1 (x :: l)[i] := fun x l hl i h hi => by
  cases i with
  | zero => omega
  | succ i => exact gdL_mem.1 hl _ (List.getElem_mem (by simpa using h))
 rcases hr with rfl | rfl | rfl | rfl | rfl | rfl | rfl | rfl | rfl | rfl | rfl | rfl | rfl | rfl | rfl | rfl | rfl
 all_goals (refine ⟨rfl, by decide, key _ _ ?_⟩; repeat' (first | exact gdL_nil | exact ha | exact hf | exact hn _ (by decide) | refine (gdL_cons _ _).2 ⟨?_, ?_⟩))
theorem rate_gd (hW : ∀ i : Int, -2147483647 ≤ i → i ≤ 2147483647 → finP (fneg (ffrom i)) = true) (a : Int) {r : Nd} (h : gd1 r) (h0 : 0 ≤ r.num) (h1 : r.num < 4294967296) : gd1 (rateA a r) := by
 have hk := ((judge_iff r _).1 h.1).2.2.1
 unfold rateA
 by_cases c : (r.kind == 2) = true
 ·rw [if_pos c]
  have c' : r.kind = 2 := by simpa using c
  have hf : finP r.num = true := by
   unfold kindP at hk
   rw [if_neg (by omega), if_pos c'] at hk
   simp only [Bool.and_eq_true] at hk
   exact hk.1.1.2
  exact gd_made (by simp [madeNm]) a ((gdL_cons _ _).2 ⟨gd_num _ (fin_neg h0 h1 hf), gdL_nil⟩)
 ·rw [if_neg c]
  by_cases d : (r.kind == 3) = true
  ·rw [if_pos d]
   have d' : r.kind = 3 := by simpa using d
   have hf : -2147483647 ≤ r.int_ ∧ r.int_ ≤ 2147483647 := by
    unfold kindP at hk
    rw [if_neg (by omega), if_neg (by omega), if_pos d'] at hk
    simp only [Bool.and_eq_true, decide_eq_true_eq] at hk
    exact ⟨hk.1.1.2, hk.1.2⟩
   exact gd_made (by simp [madeNm]) a ((gdL_cons _ _).2 ⟨gd_num _ (hW _ hf.1 hf.2), gdL_nil⟩)
  ·rw [if_neg d]
   exact gd_made (by simp [madeNm]) a ((gdL_cons _ _).2 ⟨gd_made (by simp [madeNm]) a ((gdL_cons _ _).2 ⟨h, gdL_nil⟩), (gdL_cons _ _).2 ⟨gd_made (by simp [madeNm]) a ((gdL_cons _ _).2 ⟨gd_place a (gd_num 0 (by decide)), gdL_nil⟩), gdL_nil⟩⟩)
end Go.Proofs.Ytmiidhgbdecdkaa
namespace Go.Proofs.Ytmiidhgbdecdkaa
set_option linter.unusedVariables false
set_option linter.unusedSimpArgs false
set_option maxHeartbeats 2000000 in
theorem bec_gd (hW : ∀ i : Int, -2147483647 ≤ i → i ≤ 2147483647 → finP (fneg (ffrom i)) = true) {r : Rw} (hr : r ∈ rowsA) (a : Int) {l : List Nd} (hn : l.length = r.args.length) (hl : gdL l) (hok : okL l) : gd1 (becA r.name a l) ∧ (becA r.name a l).kind = 1 := by
 have hp : 0 < l.length → gd1 (rateA a (ix l 0)) := fun h => by
  have he : ix l 0 = l[0] := by unfold ix; rw [List.getD_eq_getElem?_getD, List.getElem?_eq_getElem h]; rfl
  have := okL_get hok h
  exact rate_gd hW a (gd_ix hl h) (by rw [he]; exact this.1.2.2.1) (by rw [he]; exact this.1.2.2.2)
 have hx : ∀ i, i < l.length → gd1 (ix l i) := fun i h => gd_ix hl h
 have hk : (rateA a (ix l 0)).kind = 1 := by
  unfold rateA
  repeat' split
  all_goals rfl
 have hC : ∀ {x : Nd} {m : List Nd}, gd1 x → gdL m → gdL (x :: m) := fun h1 h2 => (gdL_cons _ _).2 ⟨h1, h2⟩
 have hD : ∀ {m w : Nd}, gd1 m → gd1 w → gd1 (decA a m w) := fun h1 h2 => gd_made (by simp [madeNm]) a (hC h1 (hC (gd_made (by simp [madeNm]) a (hC h2 gdL_nil)) gdL_nil))
 simp only [rowsA, List.mem_cons, List.not_mem_nil, or_false] at hr
 rcases hr with rfl | rfl | rfl | rfl | rfl | rfl | rfl | rfl | rfl | rfl | rfl | rfl | rfl | rfl | rfl | rfl | rfl
 ·have h : becA row0.name a l = _ := becA_adabelief a l hn
  have hn' : l.length = row0.args.length := hn
  simp only [row0, List.length_cons, List.length_nil] at hn'
  rw [h]
  refine ⟨?_, rfl⟩
  clear h
  repeat' (first | (with_reducible exact gdL_nil) | (with_reducible refine hC ?_ ?_) | ((with_reducible refine hx _ ?_); omega) | ((with_reducible refine hp ?_); omega) | ((with_reducible refine gd_num a ?_); decide) | (with_reducible exact gd_flag a) | (with_reducible refine hD ?_ ?_) | ((with_reducible refine gd_made ?_ a ?_); · simp [madeNm]))
 ·have h : becA row1.name a l = _ := becA_adadelta a l hn
  have hn' : l.length = row1.args.length := hn
  simp only [row1, List.length_cons, List.length_nil] at hn'
  rw [h]
  refine ⟨?_, rfl⟩
  clear h
  repeat' (first | (with_reducible exact gdL_nil) | (with_reducible refine hC ?_ ?_) | ((with_reducible refine hx _ ?_); omega) | ((with_reducible refine hp ?_); omega) | ((with_reducible refine gd_num a ?_); decide) | (with_reducible exact gd_flag a) | (with_reducible refine hD ?_ ?_) | ((with_reducible refine gd_made ?_ a ?_); · simp [madeNm]))
 ·have h : becA row2.name a l = _ := becA_adagrad a l hn
  have hn' : l.length = row2.args.length := hn
  simp only [row2, List.length_cons, List.length_nil] at hn'
  rw [h]
  refine ⟨?_, rfl⟩
  clear h
  repeat' (first | (with_reducible exact gdL_nil) | (with_reducible refine hC ?_ ?_) | ((with_reducible refine hx _ ?_); omega) | ((with_reducible refine hp ?_); omega) | ((with_reducible refine gd_num a ?_); decide) | (with_reducible exact gd_flag a) | (with_reducible refine hD ?_ ?_) | ((with_reducible refine gd_made ?_ a ?_); · simp [madeNm]))
 ·have h : becA row3.name a l = _ := becA_adam a l hn
  have hn' : l.length = row3.args.length := hn
  simp only [row3, List.length_cons, List.length_nil] at hn'
  rw [h]
  refine ⟨?_, rfl⟩
  clear h
  repeat' (first | (with_reducible exact gdL_nil) | (with_reducible refine hC ?_ ?_) | ((with_reducible refine hx _ ?_); omega) | ((with_reducible refine hp ?_); omega) | ((with_reducible refine gd_num a ?_); decide) | (with_reducible exact gd_flag a) | (with_reducible refine hD ?_ ?_) | ((with_reducible refine gd_made ?_ a ?_); · simp [madeNm]))
 ·have h : becA row4.name a l = _ := becA_adamax a l hn
  have hn' : l.length = row4.args.length := hn
  simp only [row4, List.length_cons, List.length_nil] at hn'
  rw [h]
  refine ⟨?_, rfl⟩
  clear h
  repeat' (first | (with_reducible exact gdL_nil) | (with_reducible refine hC ?_ ?_) | ((with_reducible refine hx _ ?_); omega) | ((with_reducible refine hp ?_); omega) | ((with_reducible refine gd_num a ?_); decide) | (with_reducible exact gd_flag a) | (with_reducible refine hD ?_ ?_) | ((with_reducible refine gd_made ?_ a ?_); · simp [madeNm]))
 ·have h : becA row5.name a l = _ := becA_adamw a l hn
  have hn' : l.length = row5.args.length := hn
  simp only [row5, List.length_cons, List.length_nil] at hn'
  rw [h]
  refine ⟨?_, rfl⟩
  clear h
  repeat' (first | (with_reducible exact gdL_nil) | (with_reducible refine hC ?_ ?_) | ((with_reducible refine hx _ ?_); omega) | ((with_reducible refine hp ?_); omega) | ((with_reducible refine gd_num a ?_); decide) | (with_reducible exact gd_flag a) | (with_reducible refine hD ?_ ?_) | ((with_reducible refine gd_made ?_ a ?_); · simp [madeNm]))
 ·have h : becA row6.name a l = _ := becA_agc a l hn
  have hn' : l.length = row6.args.length := hn
  simp only [row6, List.length_cons, List.length_nil] at hn'
  rw [h]
  refine ⟨?_, rfl⟩
  clear h
  repeat' (first | (with_reducible exact gdL_nil) | (with_reducible refine hC ?_ ?_) | ((with_reducible refine hx _ ?_); omega) | ((with_reducible refine hp ?_); omega) | ((with_reducible refine gd_num a ?_); decide) | (with_reducible exact gd_flag a) | (with_reducible refine hD ?_ ?_) | ((with_reducible refine gd_made ?_ a ?_); · simp [madeNm]))
 ·have h : becA row7.name a l = _ := becA_amsgrad a l hn
  have hn' : l.length = row7.args.length := hn
  simp only [row7, List.length_cons, List.length_nil] at hn'
  rw [h]
  refine ⟨?_, rfl⟩
  clear h
  repeat' (first | (with_reducible exact gdL_nil) | (with_reducible refine hC ?_ ?_) | ((with_reducible refine hx _ ?_); omega) | ((with_reducible refine hp ?_); omega) | ((with_reducible refine gd_num a ?_); decide) | (with_reducible exact gd_flag a) | (with_reducible refine hD ?_ ?_) | ((with_reducible refine gd_made ?_ a ?_); · simp [madeNm]))
 ·have h : becA row8.name a l = _ := becA_lamb a l hn
  have hn' : l.length = row8.args.length := hn
  simp only [row8, List.length_cons, List.length_nil] at hn'
  rw [h]
  refine ⟨?_, rfl⟩
  clear h
  repeat' (first | (with_reducible exact gdL_nil) | (with_reducible refine hC ?_ ?_) | ((with_reducible refine hx _ ?_); omega) | ((with_reducible refine hp ?_); omega) | ((with_reducible refine gd_num a ?_); decide) | (with_reducible exact gd_flag a) | (with_reducible refine hD ?_ ?_) | ((with_reducible refine gd_made ?_ a ?_); · simp [madeNm]))
 ·have h : becA row9.name a l = _ := becA_lars a l hn
  have hn' : l.length = row9.args.length := hn
  simp only [row9, List.length_cons, List.length_nil] at hn'
  rw [h]
  refine ⟨?_, rfl⟩
  clear h
  repeat' (first | (with_reducible exact gdL_nil) | (with_reducible refine hC ?_ ?_) | ((with_reducible refine hx _ ?_); omega) | ((with_reducible refine hp ?_); omega) | ((with_reducible refine gd_num a ?_); decide) | (with_reducible exact gd_flag a) | (with_reducible refine hD ?_ ?_) | ((with_reducible refine gd_made ?_ a ?_); · simp [madeNm]))
 ·have h : becA row10.name a l = _ := becA_lion a l hn
  have hn' : l.length = row10.args.length := hn
  simp only [row10, List.length_cons, List.length_nil] at hn'
  rw [h]
  refine ⟨?_, rfl⟩
  clear h
  repeat' (first | (with_reducible exact gdL_nil) | (with_reducible refine hC ?_ ?_) | ((with_reducible refine hx _ ?_); omega) | ((with_reducible refine hp ?_); omega) | ((with_reducible refine gd_num a ?_); decide) | (with_reducible exact gd_flag a) | (with_reducible refine hD ?_ ?_) | ((with_reducible refine gd_made ?_ a ?_); · simp [madeNm]))
 ·have h : becA row11.name a l = _ := becA_novograd a l hn
  have hn' : l.length = row11.args.length := hn
  simp only [row11, List.length_cons, List.length_nil] at hn'
  rw [h]
  refine ⟨?_, rfl⟩
  clear h
  repeat' (first | (with_reducible exact gdL_nil) | (with_reducible refine hC ?_ ?_) | ((with_reducible refine hx _ ?_); omega) | ((with_reducible refine hp ?_); omega) | ((with_reducible refine gd_num a ?_); decide) | (with_reducible exact gd_flag a) | (with_reducible refine hD ?_ ?_) | ((with_reducible refine gd_made ?_ a ?_); · simp [madeNm]))
 ·have h : becA row12.name a l = _ := becA_optimistic a l hn
  have hn' : l.length = row12.args.length := hn
  simp only [row12, List.length_cons, List.length_nil] at hn'
  rw [h]
  refine ⟨?_, rfl⟩
  clear h
  repeat' (first | (with_reducible exact gdL_nil) | (with_reducible refine hC ?_ ?_) | ((with_reducible refine hx _ ?_); omega) | ((with_reducible refine hp ?_); omega) | ((with_reducible refine gd_num a ?_); decide) | (with_reducible exact gd_flag a) | (with_reducible refine hD ?_ ?_) | ((with_reducible refine gd_made ?_ a ?_); · simp [madeNm]))
 ·have h : becA row13.name a l = _ := becA_rmsprop a l hn
  have hn' : l.length = row13.args.length := hn
  simp only [row13, List.length_cons, List.length_nil] at hn'
  rw [h]
  refine ⟨?_, rfl⟩
  clear h
  repeat' (first | (with_reducible exact gdL_nil) | (with_reducible refine hC ?_ ?_) | ((with_reducible refine hx _ ?_); omega) | ((with_reducible refine hp ?_); omega) | ((with_reducible refine gd_num a ?_); decide) | (with_reducible exact gd_flag a) | (with_reducible refine hD ?_ ?_) | ((with_reducible refine gd_made ?_ a ?_); · simp [madeNm]))
 ·have h : becA row14.name a l = _ := becA_scale_by_learning_rate a l hn
  have hn' : l.length = row14.args.length := hn
  simp only [row14, List.length_cons, List.length_nil] at hn'
  rw [h]
  refine ⟨?_, hk⟩
  clear h
  repeat' (first | (with_reducible exact gdL_nil) | (with_reducible refine hC ?_ ?_) | ((with_reducible refine hx _ ?_); omega) | ((with_reducible refine hp ?_); omega) | ((with_reducible refine gd_num a ?_); decide) | (with_reducible exact gd_flag a) | (with_reducible refine hD ?_ ?_) | ((with_reducible refine gd_made ?_ a ?_); · simp [madeNm]))
 ·have h : becA row15.name a l = _ := becA_sgd a l hn
  have hn' : l.length = row15.args.length := hn
  simp only [row15, List.length_cons, List.length_nil] at hn'
  rw [h]
  refine ⟨?_, rfl⟩
  clear h
  repeat' (first | (with_reducible exact gdL_nil) | (with_reducible refine hC ?_ ?_) | ((with_reducible refine hx _ ?_); omega) | ((with_reducible refine hp ?_); omega) | ((with_reducible refine gd_num a ?_); decide) | (with_reducible exact gd_flag a) | (with_reducible refine hD ?_ ?_) | ((with_reducible refine gd_made ?_ a ?_); · simp [madeNm]))
 ·have h : becA row16.name a l = _ := becA_yogi a l hn
  have hn' : l.length = row16.args.length := hn
  simp only [row16, List.length_cons, List.length_nil] at hn'
  rw [h]
  refine ⟨?_, rfl⟩
  clear h
  repeat' (first | (with_reducible exact gdL_nil) | (with_reducible refine hC ?_ ?_) | ((with_reducible refine hx _ ?_); omega) | ((with_reducible refine hp ?_); omega) | ((with_reducible refine gd_num a ?_); decide) | (with_reducible exact gd_flag a) | (with_reducible refine hD ?_ ?_) | ((with_reducible refine gd_made ?_ a ?_); · simp [madeNm]))
end Go.Proofs.Ytmiidhgbdecdkaa
namespace Go.Proofs.Ytmiidhgbdecdkaa
set_option linter.unusedVariables false
set_option linter.unusedSimpArgs false
theorem givenL_length {r : Rw} : ∀ (l : List Nd) (nx : Nat) (kd : Bool) (tk w : List Nat), givenL r l nx kd tk = .ok w → w.length = tk.length + l.length
 | [], nx, kd, tk, w, h => by
  simp only [givenL, Except.ok.injEq] at h
  subst h
  simp
 | ⟨k, n, x, i, y, m, a⟩ :: l, nx, kd, tk, w, h => by
  rw [givenL] at h
  split at h
  ·split at h
   ·cases h
   ·split at h
    ·cases h
    ·have := givenL_length l _ _ _ w h
     rw [this]
     simp
     omega
  ·split at h
   ·cases h
   ·split at h
    ·cases h
    ·have := givenL_length l _ _ _ w h
     rw [this]
     simp
     omega
theorem given_gd {r : Rw} {t : Nd} {w : List Nat} (h : givenP r t = .ok w) : w.length = t.args.length ∧ 0 ∈ w := by
 unfold givenP at h
 cases hg : givenL r t.args 0 false [] with
 | error e => rw [hg] at h; cases h
 | ok v =>
  rw [hg] at h
  simp only at h
  by_cases c : v.contains 0 = true
  ·rw [if_pos c] at h
   cases h
   exact ⟨by have := givenL_length t.args 0 false [] _ hg; simpa using this, by simpa using c⟩
  ·rw [if_neg c] at h
   cases h
theorem givenL_err {r : Rw} : ∀ (l : List Nd) (nx : Nat) (kd : Bool) (tk : List Nat) (e : Int × Int), givenL r l nx kd tk = .error e → e.1 ≠ 0
 | [], nx, kd, tk, e, h => by simp [givenL] at h
 | ⟨k, n, x, i, y, m, a⟩ :: l, nx, kd, tk, e, h => by
  rw [givenL] at h
  split at h
  ·split at h
   ·cases h; show (132 : Int) ≠ 0; decide
   ·split at h
    ·cases h; show (132 : Int) ≠ 0; decide
    ·exact givenL_err l _ _ _ e h
  ·split at h
   ·cases h; show (132 : Int) ≠ 0; decide
   ·split at h
    ·cases h; show (131 : Int) ≠ 0; decide
    ·exact givenL_err l _ _ _ e h
theorem given_err {r : Rw} {t : Nd} {e : Int × Int} (h : givenP r t = .error e) : e.1 ≠ 0 := by
 unfold givenP at h
 cases hg : givenL r t.args 0 false [] with
 | error e' => rw [hg] at h; cases h; exact givenL_err _ _ _ _ _ hg
 | ok v =>
  rw [hg] at h
  simp only at h
  by_cases c : v.contains 0 = true
  ·rw [if_pos c] at h; cases h
  ·rw [if_neg c] at h; cases h; show (131 : Int) ≠ 0; decide
theorem one_gd (hW : ∀ i : Int, -2147483647 ≤ i → i ≤ 2147483647 → finP (fneg (ffrom i)) = true) {t : Nd} {u : Option Nd} {l : List Nd} (ht : jd1 u t) (hk : t.kind ≠ 6) (he : (errA t).1 = 0) (hl : t.kind = 1 → gdL l) (hlen : l.length = t.args.length) (hok : okL l) : jd1 u (oneA t l) := by
 obtain ⟨h3, h4, h5, h6⟩ := (judge_iff t u).1 ht.1
 unfold oneA
 cases hf : findA t with
 | none =>
  refine ⟨(judge_iff _ _).2 ⟨h3, h4, (kind_args hk hlen).trans h5, h6⟩, ?_⟩
  by_cases k1 : t.kind = 1
  ·exact gdL_to (u := argsN t l) k1 (hl k1)
  ·have h0 : t.args.length = 0 := by
    unfold kindP at h5
    rw [if_neg k1] at h5
    repeat' split at h5
    all_goals first | (exfalso; omega) | (simp only [Bool.and_eq_true, beq_iff_eq] at h5; omega) | skip
    all_goals simp_all
   have : l = [] := List.eq_nil_of_length_eq_zero (by omega)
   subst this
   exact jdL_nil _
 | some r =>
  have hr : r ∈ rowsA ∧ t.kind = 1 ∧ r.name = t.name := by
   unfold findA at hf
   by_cases hk1 : (t.kind == 1) = true
   ·rw [if_pos hk1] at hf
    exact ⟨List.mem_of_find?_eq_some hf, by simpa using hk1, sameB_iff.1 (by simpa using List.find?_some hf)⟩
   ·rw [if_neg hk1] at hf; cases hf
  obtain ⟨hr, hk1, hnm⟩ := hr
  have hg : ∃ w, givenP r t = .ok w := by
   unfold errA at he
   rw [hf] at he
   simp only at he
   cases hg : givenP r t with
   | ok w => exact ⟨w, rfl⟩
   | error e =>
    exfalso
    rw [hg] at he
    simp only at he
    exact given_err hg he
  obtain ⟨w, hg⟩ := hg
  obtain ⟨hw, hw0⟩ := given_gd hg
  obtain ⟨v1, v2, v3⟩ := vals_gd r hr
  have hfl := fill_len w l (r.vals.map fun v => placeN v t.at_)
  rw [List.length_map] at hfl
  have hgl : gdL (fillA w l (r.vals.map fun v => placeN v t.at_)) := gd_fill w l _ (by omega) (hl hk1) fun i hi hh => by
   rw [List.getElem_map]
   rcases hh with hh | hh
   ·exact absurd hw0 hh
   ·exact gd_place _ (v3 i (by simpa using hi) hh)
  have hgo : okL (fillA w l (r.vals.map fun v => placeN v t.at_)) := (okL_al _).2 (al_fill ok_keeps.z _ _ _ ((okL_al _).1 hok) (alL_mem.2 fun x hx => by
   obtain ⟨v, hv, rfl⟩ := List.mem_map.1 hx
   exact al_place _ (alL_mem.1 (vals_al ok_keeps r hr) v hv)))
  obtain ⟨b1, b2⟩ := bec_gd hW hr t.at_ (by rw [hfl, v1]) hgl hgo
  rw [hnm] at b1 b2
  obtain ⟨g3, g4, g5, g6⟩ := (judge_iff _ _).1 b1.1
  simp only [hg]
  exact ⟨(judge_iff _ _).2 ⟨⟨g3.1, h3.2⟩, h4, g5, stands_no (by show (becA _ _ _).kind ≠ 6; rw [b2]; decide) _⟩, jdL_parent (a := becA t.name t.at_ _) (b := keyN (becA t.name t.at_ _) t.key) rfl _ b1.2⟩
theorem leaf_args {t : Nd} (h : kindP t = true) (hk : t.kind ≠ 6) (k1 : t.kind ≠ 1) : t.args = [] := by
 apply List.eq_nil_of_length_eq_zero
 unfold kindP at h
 rw [if_neg k1] at h
 repeat' split at h
 all_goals first | (exfalso; omega) | (simp only [Bool.and_eq_true, beq_iff_eq] at h; omega) | skip
 all_goals simp_all
theorem whole_gdL (hW : ∀ i : Int, -2147483647 ≤ i → i ≤ 2147483647 → finP (fneg (ffrom i)) = true) : ∀ l : List Nd, gdL l → (faultAL l).1 = 0 → okL l → gdL (wholeL l) := by
 apply forest (P := fun l => gdL l → (faultAL l).1 = 0 → okL l → gdL (wholeL l))
 ·intro _ _ _
  rw [wholeL_nil]; exact gdL_nil
 ·intro t r h1 h2 hg hf ho
  rw [gdL_cons] at hg
  rw [okL_cons] at ho
  rw [faultAL_cons] at hf
  have hf0 : (faultA t).1 = 0 := by
   by_cases c : (faultA t).1 ≠ 0
   ·rw [if_pos c] at hf; exact hf
   ·exact Decidable.of_not_not c
  rw [if_neg (fun h => h hf0)] at hf
  have he : (errA t).1 = 0 ∧ (faultAL t.args).1 = 0 := by
   unfold faultA at hf0
   by_cases c : (errA t).1 ≠ 0
   ·rw [if_pos c] at hf0; exact absurd hf0 c
   ·rw [if_neg c] at hf0; exact ⟨Decidable.of_not_not c, hf0⟩
  have hk6 : t.kind ≠ 6 := stands_let hg.1.1 (by show (1 : Int) ≠ 6; decide)
  rw [wholeL_cons, gdL_cons]
  exact ⟨one_gd hW hg.1 hk6 he.1 (fun k1 => h1 (gdL_of k1 hg.1.2) he.2 ho.1.2) (wholeL_len _) ((okL_al _).2 (whole_alL ok_keeps _ ((okL_al _).1 ho.1.2))), h2 hg.2 hf ho.2⟩
theorem whole_jd (hW : ∀ i : Int, -2147483647 ≤ i → i ≤ 2147483647 → finP (fneg (ffrom i)) = true) {t : Nd} {u : Option Nd} (ht : jd1 u t) (hk : t.kind ≠ 6) (hf : (faultA t).1 = 0) (ho : ok1 t) : jd1 u (wholeN t) := by
 have he : (errA t).1 = 0 ∧ (faultAL t.args).1 = 0 := by
  unfold faultA at hf
  by_cases c : (errA t).1 ≠ 0
  ·rw [if_pos c] at hf; exact absurd hf c
  ·rw [if_neg c] at hf; exact ⟨Decidable.of_not_not c, hf⟩
 exact one_gd hW ht hk he.1 (fun k1 => whole_gdL hW _ (gdL_of k1 ht.2) he.2 ho.2) (wholeL_len _) ((okL_al _).2 (whole_alL ok_keeps _ ((okL_al _).1 ho.2)))
end Go.Proofs.Ytmiidhgbdecdkaa
namespace Go.Proofs.Ytmiidhgbdecdkaa
set_option linter.unusedVariables false
set_option linter.unusedSimpArgs false
theorem R_le {m n : Nat} (h : m ≤ n) : R m ≤ R n := (near_R m).mono (near_R n) (by decide) (by decide) (by simpa using h)
theorem from_wd (n : Int) (h1 : -2147483647 ≤ n) (h2 : n ≤ 2147483647) : ∃ r, r ≤ 1325400064 ∧ ffrom n = (wd (decide (n < 0)) r : Nat) := by
 refine ⟨R (n.natAbs * 2 ^ 149), ?_, ?_⟩
 ·have e : V 23 1325400064 = 2147483648 * 2 ^ 149 := by decide +kernel
  have h3 := R_exact 1325400064
  rw [e] at h3
  rw [← h3]
  exact R_le (Nat.mul_le_mul_right _ (by omega))
 ·rw [← rungOf_R]
  unfold ffrom
  rw [nearest_eq, single_fb, single_least, word_wd]
  rfl
theorem fin_from (n : Int) (h1 : -2147483647 ≤ n) (h2 : n ≤ 2147483647) : finP (fneg (ffrom n)) = true := by
 obtain ⟨r, hr, e⟩ := from_wd n h1 h2
 have hb : (0 : Int) ≤ ffrom n ∧ ffrom n < 4294967296 ∧ ffrom n % 2147483648 < 2139095040 := by
  rw [e]
  unfold wd
  repeat' split
  all_goals omega
 exact fin_neg hb.1 hb.2.1 (by unfold finP; simpa using hb.2.2)
end Go.Proofs.Ytmiidhgbdecdkaa
namespace Go.Proofs.Ytmiidhgbdecdkaa
set_option linter.unusedVariables false
set_option linter.unusedSimpArgs false
theorem gd_kind {t : Nd} (h : gd1 t) : t.kind ≠ 6 := stands_let h.1 (by show (1 : Int) ≠ 6; decide)
theorem gd_any {t u : Nd} (h : jd1 (some u) t) (hk : t.kind ≠ 6) : gd1 t := by
 obtain ⟨h3, h4, h5, h6⟩ := (judge_iff t _).1 h.1
 exact ⟨(judge_iff _ _).2 ⟨h3, h4, h5, stands_no hk _⟩, h.2⟩
theorem gd_args {t : Nd} {l : List Nd} (h : gd1 t) (hl : t.kind = 1 → gdL l) (hn : l.length = t.args.length) : gd1 (argsN t l) := by
 have hk := gd_kind h
 obtain ⟨h3, h4, h5, h6⟩ := (judge_iff t _).1 h.1
 refine ⟨(judge_iff _ _).2 ⟨h3, h4, (kind_args hk hn).trans h5, h6⟩, ?_⟩
 by_cases k1 : t.kind = 1
 ·exact gdL_to (u := argsN t l) k1 (hl k1)
 ·have : l = [] := List.eq_nil_of_length_eq_zero (by rw [hn, leaf_args h5 hk k1]; rfl)
  subst this
  exact jdL_nil _
theorem gd_wrOne {e : Env} (he : ∀ p ∈ e, gd1 p.2) {t : Nd} {l : List Nd} (h : gd1 t) (hl : t.kind = 1 → gdL l) (hn : l.length = t.args.length) : gd1 (wrOne e t l) := by
 unfold wrOne
 by_cases c : (t.kind == 4) = true
 ·rw [if_pos c]
  cases hk : lookE e t.name with
  | none => exact gd_args h hl hn
  | some v =>
   obtain ⟨p, hp, rfl⟩ := look_mem hk
   obtain ⟨h3, h4, -⟩ := (judge_iff t _).1 h.1
   exact gd_keyed (gd_place _ (he p hp)) h3.2 h4
 ·rw [if_neg c]
  exact gd_args h hl hn
theorem gd_wrL {e : Env} (he : ∀ p ∈ e, gd1 p.2) : ∀ l : List Nd, gdL l → gdL (wrL e l) := by
 apply forest (P := fun l => gdL l → gdL (wrL e l))
 ·intro _
  rw [wrL_nil]; exact gdL_nil
 ·intro t r h1 h2 h
  rw [gdL_cons] at h
  rw [wrL_cons, gdL_cons]
  exact ⟨gd_wrOne he h.1 (fun k1 => h1 (gdL_of k1 h.1.2)) (by rw [wrL_map, List.length_map]), h2 h.2⟩
theorem gd_wr {e : Env} (he : ∀ p ∈ e, gd1 p.2) {t : Nd} (h : gd1 t) : gd1 (wrN e t) := gd_wrOne he h (fun k1 => gd_wrL he _ (gdL_of k1 h.2)) (by rw [wrL_map, List.length_map])
theorem gd_fold : ∀ (l : List (ByteArray × Nd)) (e : Env), (∀ p ∈ e, gd1 p.2) → (∀ p ∈ l, gd1 p.2) → ∀ p ∈ l.foldl (fun e p => (p.1, wrN e p.2) :: e) e, gd1 p.2
 | [], e, he, _ => he
 | x :: l, e, he, hl => by
  rw [List.foldl_cons]
  refine gd_fold l _ (fun p hp => ?_) fun p hp => hl p (List.mem_cons_of_mem _ hp)
  rcases List.mem_cons.1 hp with rfl | hp
  ·exact gd_wr he (hl x List.mem_cons_self)
  ·exact he p hp
theorem gd_env {l : List (ByteArray × Nd)} (h : ∀ p ∈ l, gd1 p.2) : ∀ p ∈ envA l, gd1 p.2 := gd_fold l [] (fun p hp => by cases hp) h
theorem lets_gd : ∀ (N : Nat) (t : Nd) (u : Option Nd), dep t ≤ N → t.kind = 6 → jd1 u t → (∀ p ∈ (letsA t).1, gd1 p.2) ∧ gd1 (letsA t).2 ∧ (letsA t).2.kind = 1 ∧ (letsA t).2.key = ⟨#[]⟩
 | 0, t, u, hd, _, _ => by unfold dep at hd; omega
 | N + 1, t, u, hd, hk, h => by
  obtain ⟨v, p, hl, hvk, hpk, hvy, hpy⟩ := binds_two (kind_let ((judge_iff t u).1 h.1).2.2.1 hk)
  have hj := h.2
  rw [hl, jdL_cons, jdL_cons] at hj
  obtain ⟨s1, s2, s3⟩ := lets_step hk (by rw [hl]; rfl)
  have e0 : ix t.args 0 = v := by rw [hl]; rfl
  have e1 : ix t.args 1 = p := by rw [hl]; rfl
  rw [e0, e1] at s1
  rw [e1] at s2 s3
  rw [s1, s2]
  have hv : gd1 v := gd_any hj.1 hvk
  by_cases k6 : p.kind = 6
  ·obtain ⟨i1, i2⟩ := lets_gd N p (some t) (by omega) k6 hj.2.1
   exact ⟨fun q hq => by
    rcases List.mem_cons.1 hq with rfl | hq
    ·exact hv
    ·exact i1 q hq, i2⟩
  ·rw [lets_end k6]
   have k1 : p.kind = 1 := hpk.resolve_left k6
   exact ⟨fun q hq => by
    rcases List.mem_cons.1 hq with rfl | hq
    ·exact hv
    ·simp at hq, gd_any hj.2.1 k6, k1, hpy⟩
theorem written_jd {t : Nd} (h : jd1 none t) : jd1 none (writtenA t) ∧ (writtenA t).kind ≠ 6 := by
 by_cases hk : t.kind = 6
 ·obtain ⟨h1, h2, h3, h4⟩ := lets_gd (dep t) t none (Nat.le_refl _) hk h
  have hg : gd1 (writtenA t) := gd_wr (gd_env h1) h2
  have hw : writtenA t = argsN (letsA t).2 (wrL (envA (letsA t).1) (letsA t).2.args) := by
   show wrOne _ _ _ = _
   unfold wrOne
   rw [if_neg (by rw [h3]; decide)]
  refine ⟨?_, by rw [hw]; show (letsA t).2.kind ≠ 6; rw [h3]; decide⟩
  have hy : (writtenA t).key = ⟨#[]⟩ := by rw [hw]; exact h4
  have := jd_free hg
  rw [show keyN (writtenA t) ⟨#[]⟩ = writtenA t by rw [← hy]; cases writtenA t; rfl] at this
  exact this
 ·rw [written_id hk]
  exact ⟨h, hk⟩
theorem exp_check {t : Nd} (hc : checkP t = 0) (hf : (faultA (writtenA t)).1 = 0) (ho : ok1 t) : checkP (wholeN (writtenA t)) = measP (wholeN (writtenA t)) := by
 obtain ⟨h1, h2⟩ := written_jd ((check_iff t).1 hc).2
 have hj := whole_jd fin_from h1 h2 hf (written_ok ho)
 by_cases hm : measP (wholeN (writtenA t)) = 0
 ·rw [hm]; exact (check_iff _).2 ⟨hm, hj⟩
 ·unfold checkP; rw [if_neg hm]
end Go.Proofs.Ytmiidhgbdecdkaa
namespace Go.Proofs.Ytmiidhgbdecdkaa
set_option linter.unusedVariables false
set_option linter.unusedSimpArgs false
def leafEq (a b : Nd) : Bool := a.kind == b.kind && sameB a.name b.name && a.num == b.num && a.int_ == b.int_ && sameB a.key b.key && a.args.isEmpty && b.args.isEmpty && a.at_ == b.at_
theorem leafEq_eq {a b : Nd} (h : leafEq a b = true) : a = b := by
 obtain ⟨k, n, x, i, y, l, p⟩ := a
 obtain ⟨k', n', x', i', y', l', p'⟩ := b
 unfold leafEq at h
 simp only [Bool.and_eq_true, beq_iff_eq, List.isEmpty_iff] at h
 obtain ⟨⟨⟨⟨⟨⟨⟨h1, h2⟩, h3⟩, h4⟩, h5⟩, h6⟩, h7⟩, h8⟩ := h
 rw [sameB_iff] at h2 h5
 subst h1 h2 h3 h4 h5 h6 h7 h8
 rfl
def listEq : List Nd → List Nd → Bool
 | [], [] => true
 | a :: l, b :: m => leafEq a b && listEq l m
 | _, _ => false
theorem listEq_eq : ∀ {l m : List Nd}, listEq l m = true → l = m
 | [], [], _ => rfl
 | a :: l, b :: m, h => by
  simp only [listEq, Bool.and_eq_true] at h
  rw [leafEq_eq h.1, listEq_eq h.2]
 | [], _ :: _, h => by simp [listEq] at h
 | _ :: _, [], h => by simp [listEq] at h
def fillOK (r : Rw) (l p : List Nd) : Bool := match givenL r l 0 false [] with | .ok w => w.contains 0 && listEq (fillA w l r.vals) p | .error _ => false
def rowOK (r : Rw) : Bool := (List.range (2 ^ r.args.length)).all fun g => fillOK r ((plA r g).take (lastG r.args.length g + 1)) (plA r g) && (List.range 10).all fun k => fillOK r (rotA k (nmA r g)) (plA r g)
set_option maxRecDepth 100000 in
theorem rows_named : rowsA.all rowOK = true := by decide +kernel
end Go.Proofs.Ytmiidhgbdecdkaa
