import Derived.Test.YtmiidhgbdecdkaaGreatPart22
import Derived.Test.YtmiidhgbdecdkaaGreatPart4
import Derived.Test.YtmiidhgbdecdkaaGreatPart10
import Derived.Sort.KeysCollected
import Derived.Maps.OwnSet
import Derived.Test.YtmiidhgbdecdkaaGreatPart2
import Derived.WalkKit
import Derived.Shelf.SlIter.Nil
import Derived.Shelf.SortM.Plain
import Derived.Shelf.SortM.SortNone
import Derived.Shelf.SlGeneric
import Derived.Ground.GgzProg
import Derived.Ground.SlgmProg
import Derived.Test.YtmiidhgbdecdkaaGreatProg
namespace Go.Proofs.YtmiidhgbdecdkaaGreat
open Go.RowKit
set_option linter.unusedVariables false
set_option linter.unusedSimpArgs false
theorem sgdok : ok1 sgdW := by
 refine ⟨⟨by decide, by decide, by decide, by decide⟩, (okL_cons _ _).2 ⟨⟨⟨by decide, by decide, by decide, by decide⟩, okL_nil⟩, okL_nil⟩⟩
theorem chainok : ok1 chainW := by
 refine ⟨⟨by decide, by decide, by decide, by decide⟩, (okL_cons _ _).2 ⟨⟨⟨by decide, by decide, by decide, by decide⟩, okL_nil⟩, okL_nil⟩⟩
theorem adamok : ok1 adamW := ⟨⟨by decide, by decide, by decide, by decide⟩, okL_nil⟩
theorem kids_any {w : World} {S : Blk} {v : Value} {l : List Nd} (h : Kids w (inH S) v l) : Kids w anyH v l := h.weak fun _ _ _ _ => trivial
set_option maxRecDepth 100000 in
set_option maxHeartbeats 4000000 in
theorem works_any (w : World) :
  Calls Tryz.prog 7 #[] w fun e w' => e = .returned (.bool true) ∧ Below w.heap.size w w' := by
 obtain ⟨A, B, hA, hB, hE1⟩ := exp_sgd
 have HX1 : Hid (∀ (G : Nat) (x : World), Kids x anyH (.slice (some ⟨G, 0, none⟩) 1 1) [rateW] → Calls Tryz.prog 10 #[.agg #[.int .i64 1, .string ⟨#[115, 103, 100]⟩, .int .u32 0, .int .i64 0, .string ⟨#[]⟩, .slice (some ⟨G, 0, none⟩) 1 1, .int .i64 0]] x fun e w' => ∃ b c, e = .returned (.tuple #[.agg #[.int .i64 1, .string ⟨#[99, 104, 97, 105, 110]⟩, .int .u32 0, .int .i64 0, .string ⟨#[]⟩, .slice (some ⟨b, 0, none⟩) 2 c, .int .i64 0], .int .i64 0, .int .i64 0]) ∧ (w'.cell? ⟨b, 1, none⟩ = some (.string ⟨#[116, 114, 97, 99, 101]⟩) ∧ w'.cell? ⟨b, 8, none⟩ = some (.string ⟨#[115, 99, 97, 108, 101]⟩)) ∧ Below x.heap.size x w') := fun G x hx => by
  refine (expand_any sgdW _ x (by rw [cnt_sgd]; decide) sgdok hx).mono fun e w' ⟨sv, h1, h2, h3⟩ => ?_
  rw [hE1] at h1 h2
  obtain ⟨p, c, rfl, hq, hk⟩ := h2
  rcases hk with hk | ⟨b, o, rfl, hk⟩
  ·cases hk
  ·rcases hq with ⟨hh, -⟩ | ⟨b2, hh, -, -⟩
   ·cases hh
   ·simp only [Option.some.injEq, Addr.mk.injEq] at hh
    obtain ⟨rfl, rfl, -⟩ := hh
    rw [KA_cons, KA_cons] at hk
    refine ⟨b, c, h1, ⟨?_, ?_⟩, h3⟩
    ·have := hk.1.2.1; rw [hA] at this; exact this
    ·have := hk.2.1.2.1; rw [hB] at this; exact this
 have HX2 : Hid (∀ (G2 : Nat) (x : World), Kids x anyH (.slice (some ⟨G2, 0, none⟩) 1 1) [rateW] → Calls Tryz.prog 10 #[.agg #[.int .i64 1, .string ⟨#[99, 104, 97, 105, 110]⟩, .int .u32 0, .int .i64 0, .string ⟨#[]⟩, .slice (some ⟨G2, 0, none⟩) 1 1, .int .i64 0]] x fun e w' => ∃ p2 c2, e = .returned (.tuple #[.agg #[.int .i64 1, .string ⟨#[99, 104, 97, 105, 110]⟩, .int .u32 0, .int .i64 0, .string ⟨#[]⟩, .slice p2 1 c2, .int .i64 0], .int .i64 0, .int .i64 0]) ∧ Below x.heap.size x w') := fun G x hx => by
  refine (expand_any chainW _ x (by rw [cnt_chain]; decide) chainok hx).mono fun e w' ⟨sv, h1, h2, h3⟩ => ?_
  rw [exp_chain] at h1 h2
  obtain ⟨p, c, rfl, -⟩ := h2
  exact ⟨p, c, h1, h3⟩
 have HX3 : Hid (∀ (x : World), Calls Tryz.prog 10 #[.agg #[.int .i64 1, .string ⟨#[97, 100, 97, 109]⟩, .int .u32 0, .int .i64 0, .string ⟨#[]⟩, .slice none 0 0, .int .i64 0]] x fun e w' => ∃ p3 c3, e = .returned (.tuple #[.agg #[.int .i64 0, .string ⟨#[]⟩, .int .u32 0, .int .i64 0, .string ⟨#[]⟩, .slice p3 0 c3, .int .i64 0], .int .i64 131, .int .i64 0]) ∧ Below x.heap.size x w') := fun x => by
  refine (expand_any adamW (.slice none 0 0) x (by rw [cnt_adam]; decide) adamok ⟨none, 0, rfl, trivial, .inl rfl⟩).mono fun e w' ⟨sv, h1, h2, h3⟩ => ?_
  rw [exp_adam] at h1 h2
  obtain ⟨p, c, rfl, -⟩ := h2
  exact ⟨p, c, h1, h3⟩
 clear hA hB hE1
 obtain ⟨W, hW, hX, hB0, hs⟩ := new_box w
 obtain ⟨⟨g0, g1, g2, g3, g4, g5, g6⟩, f0, f1, f2, f3, f4, f5, f6⟩ := sevenA hX
 have HW := hidM hX
 have HB0 := hidM hB0
 clear hX hB0 hs
 go_enter Tryz.func7, Tryz.ntmps7
 go_upto_region 2 with fail
 have hx1 := put_sevenA HW.out (.int .i64 2) (.string ⟨#[]⟩) (.int .u32 1036831949) (.int .i64 0) (.string ⟨#[]⟩) (.slice none 0 0) (.int .i64 4)
 have hb1 := below_seven HB0.out (.int .i64 2) (.string ⟨#[]⟩) (.int .u32 1036831949) (.int .i64 0) (.string ⟨#[]⟩) (.slice none 0 0) (.int .i64 4)
 obtain ⟨U1, hU1⟩ : ∃ UU, (((((((W.setCell ⟨w.heap.size, 0, none⟩ (.int .i64 2)).setCell ⟨w.heap.size, 1, none⟩ (.string ⟨#[]⟩)).setCell ⟨w.heap.size, 2, none⟩ (.int .u32 1036831949)).setCell ⟨w.heap.size, 3, none⟩ (.int .i64 0)).setCell ⟨w.heap.size, 4, none⟩ (.string ⟨#[]⟩)).setCell ⟨w.heap.size, 5, none⟩ (.slice none 0 0)).setCell ⟨w.heap.size, 6, none⟩ (.int .i64 4)) = UU := ⟨_, rfl⟩
 rw [hU1] at hx1 hb1 ⊢
 have HR1 := hidM hx1
 have HB1 := hidM hb1
 clear hU1 hW g0 g1 g2 g3 g4 g5 g6 f0 f1 f2 f3 f4 f5 f6
 obtain ⟨⟨g0, g1, g2, g3, g4, g5, g6⟩, -⟩ := sevenA hx1
 clear hx1 hb1
 obtain ⟨U2, hU2⟩ : ∃ UU, U1.alloc (.cells #[.int .i64 2, .string ⟨#[]⟩, .int .u32 1036831949, .int .i64 0, .string ⟨#[]⟩, .slice none 0 0, .int .i64 4] 29) = UU := ⟨_, rfl⟩
 have hk2 := kids_row (w := U1) (S := fun j => j = U1.heap.size) (R := [(rateW, .slice none 0 0)]) (cs := #[.int .i64 2, .string ⟨#[]⟩, .int .u32 1036831949, .int .i64 0, .string ⟨#[]⟩, .slice none 0 0, .int .i64 4]) rfl (fun r hr => by rw [List.mem_singleton.1 hr]; exact kids_none _ _) rfl (by decide)
 have hb2 := bel_alloc U1 (.cells #[.int .i64 2, .string ⟨#[]⟩, .int .u32 1036831949, .int .i64 0, .string ⟨#[]⟩, .slice none 0 0, .int .i64 4] 29)
 rw [hU2] at hk2 hb2
 have HK2 : Hid (Kids U2 anyH (.slice (some ⟨U1.heap.size, 0, none⟩) 1 1) [rateW]) := kids_any hk2
 have HB2 : Hid (Below w.heap.size w U2) := bel HB1.out hb2
 have HR2 : Hid (U2.heap[w.heap.size]? = some (.cells #[.int .i64 2, .string ⟨#[]⟩, .int .u32 1036831949, .int .i64 0, .string ⟨#[]⟩, .slice none 0 0, .int .i64 4] 29)) := (hb2.block _ (hlt HR1.out)).trans HR1.out
 clear hk2 hb2
 obtain ⟨W3, hW3, hX3, hB3, -⟩ := new_box U2
 obtain ⟨⟨q0, q1, q2, q3, q4, q5, q6⟩, r0, r1, r2, r3, r4, r5, r6⟩ := sevenA hX3
 have HX3b := hidM hX3
 have HB3 := hidM hB3
 clear hX3 hB3
 go_upto_region 3 with fail
 obtain ⟨G, hG⟩ : ∃ G, U1.heap.size = G := ⟨_, rfl⟩
 rw [hG] at HK2 ⊢
 have hx3 := put_sevenA HX3b.out (.int .i64 1) (.string ⟨#[115, 103, 100]⟩) (.int .u32 0) (.int .i64 0) (.string ⟨#[]⟩) (.slice (some ⟨G, 0, none⟩) 1 1) (.int .i64 0)
 have hb3 := below_seven HB3.out (.int .i64 1) (.string ⟨#[115, 103, 100]⟩) (.int .u32 0) (.int .i64 0) (.string ⟨#[]⟩) (.slice (some ⟨G, 0, none⟩) 1 1) (.int .i64 0)
 obtain ⟨U3, hU3⟩ : ∃ UU, (((((((W3.setCell ⟨U2.heap.size, 0, none⟩ (.int .i64 1)).setCell ⟨U2.heap.size, 1, none⟩ (.string ⟨#[115, 103, 100]⟩)).setCell ⟨U2.heap.size, 2, none⟩ (.int .u32 0)).setCell ⟨U2.heap.size, 3, none⟩ (.int .i64 0)).setCell ⟨U2.heap.size, 4, none⟩ (.string ⟨#[]⟩)).setCell ⟨U2.heap.size, 5, none⟩ (.slice (some ⟨G, 0, none⟩) 1 1)).setCell ⟨U2.heap.size, 6, none⟩ (.int .i64 0)) = UU := ⟨_, rfl⟩
 rw [hU3] at hx3 hb3 ⊢
 have HK3 : Hid (Kids U3 anyH (.slice (some ⟨G, 0, none⟩) 1 1) [rateW]) := HK2.out.below hb3
 have HB3w : Hid (Below w.heap.size w U3) := bel HB2.out hb3
 have HR3 : Hid (U3.heap[w.heap.size]? = some (.cells #[.int .i64 2, .string ⟨#[]⟩, .int .u32 1036831949, .int .i64 0, .string ⟨#[]⟩, .slice none 0 0, .int .i64 4] 29)) := (hb3.block _ (hlt HR2.out)).trans HR2.out
 obtain ⟨O, hO⟩ : ∃ O, U2.heap.size = O := ⟨_, rfl⟩
 rw [hO] at hx3 ⊢
 clear g0 g1 g2 g3 g4 g5 g6 q0 q1 q2 q3 q4 q5 q6 r0 r1 r2 r3 r4 r5 r6 hU3 hU2 hG hW3 hO hb3 HX3b HB3 HB0 HW
 obtain ⟨⟨q0, q1, q2, q3, q4, q5, q6⟩, -⟩ := sevenA hx3
 clear hx3
 go_upto_region 4 with (go_at_call 10; (with_reducible refine (HX1.out _ _ HK3.out).mono ?_); rintro e v1 ⟨b1, c1, rfl, ⟨hn1, hn8⟩, hb1⟩; have HN1 : Hid (v1.cell? ⟨b1, 1, none⟩ = some (.string ⟨#[116, 114, 97, 99, 101]⟩) ∧ v1.cell? ⟨b1, 8, none⟩ = some (.string ⟨#[115, 99, 97, 108, 101]⟩)) := ⟨hn1, hn8⟩; have HB4 : Hid (Below w.heap.size w v1) := bel HB3w.out hb1; have HR4 : Hid (v1.heap[w.heap.size]? = some (.cells #[.int .i64 2, .string ⟨#[]⟩, .int .u32 1036831949, .int .i64 0, .string ⟨#[]⟩, .slice none 0 0, .int .i64 4] 29)) := (hb1.block _ (hlt HR3.out)).trans HR3.out; clear hn1 hn8 hb1; obtain ⟨W5, hW5, hX5, hB5, -⟩ := new_box v1; obtain ⟨⟨s0, s1, s2, s3, s4, s5, s6⟩, r0, r1, r2, r3, r4, r5, r6⟩ := sevenA hX5; have HX5 := hidM hX5; have HB5 := hidM hB5; clear hX5 hB5)
 have hx5 := put_sevenA HX5.out (.int .i64 1) (.string ⟨#[99, 104, 97, 105, 110]⟩) (.int .u32 0) (.int .i64 0) (.string ⟨#[]⟩) (.slice (some ⟨b1, 0, none⟩) 2 c1) (.int .i64 0)
 have hb5 := below_seven HB5.out (.int .i64 1) (.string ⟨#[99, 104, 97, 105, 110]⟩) (.int .u32 0) (.int .i64 0) (.string ⟨#[]⟩) (.slice (some ⟨b1, 0, none⟩) 2 c1) (.int .i64 0)
 obtain ⟨U5, hU5⟩ : ∃ UU, (((((((W5.setCell ⟨v1.heap.size, 0, none⟩ (.int .i64 1)).setCell ⟨v1.heap.size, 1, none⟩ (.string ⟨#[99, 104, 97, 105, 110]⟩)).setCell ⟨v1.heap.size, 2, none⟩ (.int .u32 0)).setCell ⟨v1.heap.size, 3, none⟩ (.int .i64 0)).setCell ⟨v1.heap.size, 4, none⟩ (.string ⟨#[]⟩)).setCell ⟨v1.heap.size, 5, none⟩ (.slice (some ⟨b1, 0, none⟩) 2 c1)).setCell ⟨v1.heap.size, 6, none⟩ (.int .i64 0)) = UU := ⟨_, rfl⟩
 rw [hU5] at hx5 hb5 ⊢
 have HB5w : Hid (Below w.heap.size w U5) := bel HB4.out hb5
 have HR5 : Hid (U5.heap[w.heap.size]? = some (.cells #[.int .i64 2, .string ⟨#[]⟩, .int .u32 1036831949, .int .i64 0, .string ⟨#[]⟩, .slice none 0 0, .int .i64 4] 29)) := (hb5.block _ (hlt HR4.out)).trans HR4.out
 have HN5 : Hid (U5.cell? ⟨b1, 1, none⟩ = some (.string ⟨#[116, 114, 97, 99, 101]⟩) ∧ U5.cell? ⟨b1, 8, none⟩ = some (.string ⟨#[115, 99, 97, 108, 101]⟩)) := ⟨(hb5.cell (mcell_lt HN1.out.1)).trans HN1.out.1, (hb5.cell (mcell_lt HN1.out.2)).trans HN1.out.2⟩
 obtain ⟨O1, hO1⟩ : ∃ O, v1.heap.size = O := ⟨_, rfl⟩
 rw [hO1] at hx5 ⊢
 have HA5 := hidM hx5
 clear q0 q1 q2 q3 q4 q5 q6 s0 s1 s2 s3 s4 s5 s6 r0 r1 r2 r3 r4 r5 r6 hU5 hW5 hO1 hb5 hx5 HX5 HB5 HN1 HR4 HB4 HX1
 obtain ⟨⟨g0, g1, g2, g3, g4, g5, g6⟩, -⟩ := sevenA HR5.out
 obtain ⟨U6, hU6⟩ : ∃ UU, U5.alloc (.cells #[.int .i64 2, .string ⟨#[]⟩, .int .u32 1036831949, .int .i64 0, .string ⟨#[]⟩, .slice none 0 0, .int .i64 4] 29) = UU := ⟨_, rfl⟩
 have hk6 := kids_row (w := U5) (S := fun j => j = U5.heap.size) (R := [(rateW, .slice none 0 0)]) (cs := #[.int .i64 2, .string ⟨#[]⟩, .int .u32 1036831949, .int .i64 0, .string ⟨#[]⟩, .slice none 0 0, .int .i64 4]) rfl (fun r hr => by rw [List.mem_singleton.1 hr]; exact kids_none _ _) rfl (by decide)
 have hb6 := bel_alloc U5 (.cells #[.int .i64 2, .string ⟨#[]⟩, .int .u32 1036831949, .int .i64 0, .string ⟨#[]⟩, .slice none 0 0, .int .i64 4] 29)
 rw [hU6] at hk6 hb6
 have HK6 : Hid (Kids U6 anyH (.slice (some ⟨U5.heap.size, 0, none⟩) 1 1) [rateW]) := kids_any hk6
 have HB6 : Hid (Below U5.heap.size U5 U6) := hb6
 clear hk6 hb6
 go_upto_region 5 with (go_at_call 10; (with_reducible refine (HX2.out _ _ HK6.out).mono ?_); rintro e v2 ⟨p2, c2, rfl, hb2⟩; have HB7 : Hid (Below U5.heap.size U5 v2) := bel HB6.out hb2; clear hb2; obtain ⟨W7, hW7, hX7, hB7, -⟩ := new_box v2; obtain ⟨⟨s0, s1, s2, s3, s4, s5, s6⟩, r0, r1, r2, r3, r4, r5, r6⟩ := sevenA hX7; have HX7 := hidM hX7; have HB7b := hidM hB7; clear hX7 hB7)
 have hx7 := put_sevenA HX7.out (.int .i64 1) (.string ⟨#[99, 104, 97, 105, 110]⟩) (.int .u32 0) (.int .i64 0) (.string ⟨#[]⟩) (.slice p2 1 c2) (.int .i64 0)
 have hb7 := below_seven HB7b.out (.int .i64 1) (.string ⟨#[99, 104, 97, 105, 110]⟩) (.int .u32 0) (.int .i64 0) (.string ⟨#[]⟩) (.slice p2 1 c2) (.int .i64 0)
 obtain ⟨U7, hU7⟩ : ∃ UU, (((((((W7.setCell ⟨v2.heap.size, 0, none⟩ (.int .i64 1)).setCell ⟨v2.heap.size, 1, none⟩ (.string ⟨#[99, 104, 97, 105, 110]⟩)).setCell ⟨v2.heap.size, 2, none⟩ (.int .u32 0)).setCell ⟨v2.heap.size, 3, none⟩ (.int .i64 0)).setCell ⟨v2.heap.size, 4, none⟩ (.string ⟨#[]⟩)).setCell ⟨v2.heap.size, 5, none⟩ (.slice p2 1 c2)).setCell ⟨v2.heap.size, 6, none⟩ (.int .i64 0)) = UU := ⟨_, rfl⟩
 rw [hU7] at hx7 hb7 ⊢
 have HB7w : Hid (Below U5.heap.size U5 U7) := bel HB7.out hb7
 obtain ⟨O2, hO2⟩ : ∃ O, v2.heap.size = O := ⟨_, rfl⟩
 rw [hO2] at hx7 ⊢
 have HA7 := hidM hx7
 clear g0 g1 g2 g3 g4 g5 g6 s0 s1 s2 s3 s4 s5 s6 r0 r1 r2 r3 r4 r5 r6 hU7 hW7 hO2 hb7 hx7 HX7 HB7b HB7 HX2 hU6 HK6 HB6
 go_upto_region 6 with (go_at_call 10; (with_reducible refine (HX3.out _).mono ?_); rintro e v3 ⟨p3, c3, rfl, hb3⟩; have HB8 : Hid (Below U7.heap.size U7 v3) := hb3; clear hb3; obtain ⟨W9, hW9, hX9, hB9, -⟩ := new_box v3; obtain ⟨⟨s0, s1, s2, s3, s4, s5, s6⟩, r0, r1, r2, r3, r4, r5, r6⟩ := sevenA hX9; have HB9 := hidM hB9; clear hX9 hB9)
 have hb9 := below_seven HB9.out (.int .i64 0) (.string ⟨#[]⟩) (.int .u32 0) (.int .i64 0) (.string ⟨#[]⟩) (.slice p3 0 c3) (.int .i64 0)
 obtain ⟨U9, hU9⟩ : ∃ UU, (((((((W9.setCell ⟨v3.heap.size, 0, none⟩ (.int .i64 0)).setCell ⟨v3.heap.size, 1, none⟩ (.string ⟨#[]⟩)).setCell ⟨v3.heap.size, 2, none⟩ (.int .u32 0)).setCell ⟨v3.heap.size, 3, none⟩ (.int .i64 0)).setCell ⟨v3.heap.size, 4, none⟩ (.string ⟨#[]⟩)).setCell ⟨v3.heap.size, 5, none⟩ (.slice p3 0 c3)).setCell ⟨v3.heap.size, 6, none⟩ (.int .i64 0)) = UU := ⟨_, rfl⟩
 rw [hU9] at hb9 ⊢
 have h79 := bel HB8.out hb9
 have h59 := bel HB7w.out h79
 have HBE : Hid (Below w.heap.size w U9) := bel HB5w.out h59
 clear s0 s1 s2 s3 s4 s5 s6 r0 r1 r2 r3 r4 r5 r6 hU9 hW9 hb9 HX3 HB9 HB8
 obtain ⟨⟨g0, g1, g2, g3, g4, g5, g6⟩, -⟩ := sevenA ((h59.block _ (hlt HA5.out)).trans HA5.out)
 obtain ⟨⟨q0, q1, q2, q3, q4, q5, q6⟩, -⟩ := sevenA ((h79.block _ (hlt HA7.out)).trans HA7.out)
 have n1 := (h59.cell (mcell_lt HN5.out.1)).trans HN5.out.1
 have n8 := (h59.cell (mcell_lt HN5.out.2)).trans HN5.out.2
 clear h79 h59
 go_wp2
 refine bodyPost_ret (by simp [results, Tryz.results7, go_sem]; try rfl) rfl ?_
 exact ⟨rfl, HBE.out⟩
end Go.Proofs.YtmiidhgbdecdkaaGreat
namespace Go.Proofs.YtmiidhgbdecdkaaGreat
open Go.RowKit
set_option linter.unusedVariables false
set_option linter.unusedSimpArgs false
def strT (l : List ByteArray) : List Value := l.map Value.string
def OwnT (w : World) (B : Nat) (v : Value) (l : List ByteArray) : Prop := w.ownsRow B 9 1 v l.length (strT l)
theorem OwnT.shape {w : World} {B : Nat} {v : Value} {l : List ByteArray} (h : OwnT w B v l) : ∃ p c, v = .slice p l.length c := by
 rcases h.2 with ⟨hv, hn⟩ | ⟨g, cap, cur, hv, _⟩
 ·exact ⟨none, 0, by rw [hv, hn]⟩
 ·exact ⟨_, _, hv⟩
theorem OwnT.lt {w : World} {B : Nat} {v : Value} {l : List ByteArray} (h : OwnT w B v l) {g : Nat} (hg : v.ownBlock = some g) : B ≤ g ∧ g < w.heap.size := by
 rcases h.2 with ⟨hv, hn⟩ | ⟨b, cap, cur, hv, hB, hgg, _⟩
 ·rw [hv] at hg; simp [Value.ownBlock] at hg
 ·rw [hv] at hg
  have : b = g := by simpa [Value.ownBlock] using hg
  subst this
  exact ⟨hB, (Array.getElem?_eq_some_iff.1 hgg).1⟩
theorem ownT_snoc {w : World} {B : Nat} {v : Value} {l : List ByteArray} {nm : ByteArray} (h : w.ownsRow B 9 1 v (l.length + 1) (strT l ++ [.string nm])) : OwnT w B v (l ++ [nm]) := by
 unfold OwnT strT
 rw [List.length_append, List.map_append]
 exact h
theorem info_str : (Tryz.prog.info? 9).map (fun i => (i.zero, i.size, i.bytes)) = some (some (.string ⟨#[]⟩), 1, 16) := by kernel_rfl
def namesS : List ByteArray := rowsA.map (fun r => r.name)
theorem names_len : namesS.length = 17 := rfl
theorem rows_len17 : rowsA.length = 17 := rfl
set_option maxRecDepth 100000 in
set_option maxHeartbeats 4000000 in
theorem rnames12_any (w : World) :
  Calls Tryz.prog 6 #[] w fun e w' => ∃ v, e = .returned v ∧ OwnT w' w.heap.size v namesS ∧ Below w.heap.size w w' := by
 have HRW : Hid (∀ x : World, Calls Tryz.prog 16 #[] x fun e w' => ∃ b, e = .returned (.slice (some ⟨b, 0, none⟩) 17 17) ∧ (∀ i (h : i < namesS.length), w'.cell? ⟨b, i * 3, none⟩ = some (.string namesS[i])) ∧ Below x.heap.size x w') := fun x => (rows_any x).mono fun e w' ⟨v, h1, ⟨b, hB, hv, hr⟩, h3⟩ => ⟨b, by rw [h1, hv, rows_len17], fun i hi => by
   have hi2 : i < rowsA.length := by rw [rows_len17]; exact hi
   obtain ⟨s, n, h0, -⟩ := hr i hi2
   have e : namesS[i] = rowsA[i].name := List.getElem_map _
   exact h0.trans (congrArg (fun z => some (Value.string z)) e.symm), h3⟩
 obtain ⟨i0, hi0, hz0, hz1, hz2⟩ := info_parts info_str
 go_enter Tryz.func6, Tryz.ntmps6
 go_wp2_with (go_at_call 16; (with_reducible refine (HRW.out _).mono ?_); rintro e v1 ⟨b, rfl, hn1, hb1⟩; have HN1 : Hid (∀ i (h : i < namesS.length), v1.cell? ⟨b, i * 3, none⟩ = some (.string namesS[i])) := hn1; have HB1 : Hid (Below w.heap.size w v1) := hb1; clear hn1 hb1)
 go_loopw [1, 3] (fun lv iv wr => ∃ (j : Nat) (ov : Value), ov = lv ∧ j ≤ 17 ∧ iv = .int .i64 j ∧ Hid (Below v1.heap.size v1 wr ∧ OwnT wr v1.heap.size ov (namesS.take j))) (fun _ iv _ => 17 - (intOf iv).toNat)
 case atStart => exact ⟨0, _, rfl, Nat.zero_le _, rfl, Below.refl _ _, World.ownsRow_nil _ _ _ 1⟩
 case round =>
  obtain ⟨j, ov, rfl, hj, rfl, HS⟩ := hrel
  obtain ⟨hb, hown⟩ := HS.out
  clear HS
  by_cases hlt0 : j < 17
  ·have hll : j < namesS.length := by rw [names_len]; exact hlt0
   have hcell := (hb.cell (mcell_lt (HN1.out j hll))).trans (HN1.out j hll)
   have HTK : Hid (namesS.take (j + 1) = namesS.take j ++ [namesS[j]]) := by show _ = _; rw [List.take_succ_eq_append_getElem hll]
   obtain ⟨nm, hnm⟩ : ∃ nm, namesS[j] = nm := ⟨_, rfl⟩
   rw [hnm] at hcell HTK
   obtain ⟨tk, htk⟩ : ∃ tk, namesS.take j = tk := ⟨_, rfl⟩
   have HTL : Hid (tk.length = j) := by show _ = _; rw [← htk, List.length_take]; omega
   rw [htk] at hown HTK
   have HOW : Hid (OwnT wr v1.heap.size ov tk) := hown
   have HB : Hid (Below v1.heap.size v1 wr) := hb
   have i1 : (0 : Int) ≤ (j : Int) := by omega
   have i2 : (j : Int) < 17 := by omega
   obtain ⟨po, co, rfl⟩ := hown.shape
   have htl := HTL.out
   clear hnm htk hown hb
   go_wp2_with (at_builtin; refine wpList_append_own_at _ rfl _ _ 22 rfl v1.heap.size 9 i0 _ 1 16 Tryz.underlying22 hi0 hz0 hz1 hz2 rfl (by decide) (.slice po tk.length co) tk.length (strT tk) rfl (World.ownsRow.alloc HOW.out _) ⟨wr.heap.size, 0, none⟩ 1 1 [.string nm] rfl rfl (World.news_of_block (cs := #[.string nm]) (t := 9) (fr := (0, 0)) (box_heapA wr _)) (by simp [Value.oneCell']) (by unfold maxLen; omega) (by omega) (by simp; have := HB.out.size; omega) ?_; intro tv2 w5 hown5 hgrow hnil hat; have HO5 : Hid (OwnT w5 v1.heap.size tv2 (tk ++ [nm])) := ownT_snoc hown5; have HB5 : Hid (Below v1.heap.size v1 w5) := Below.grown (bel HB.out (bel_alloc _ _)) hgrow (by simp; have := HB.out.size; omega) (fun g e => (HOW.out.lt e).1); obtain ⟨p2, c2, rfl⟩ := HO5.out.shape; clear hown5 hgrow hnil hat)
   go_roundw
   case rel => exact ⟨j + 1, _, rfl, by omega, by go_num, HB5.out, by rw [HTK.out]; have h := HO5.out; rw [show (tk ++ [nm]).length = j + 1 by rw [List.length_append, HTL.out]; rfl] at h; exact h⟩
   case measure => simp [intOf]; omega
  ·have : j = 17 := by omega
   subst this
   have i2 : ¬ ((17 : Int) < 17) := by omega
   have HB : Hid (Below w.heap.size w wr) := bel HB1.out hb
   rw [show namesS.take 17 = namesS from rfl] at hown
   have HOW : Hid (OwnT wr w.heap.size ov namesS) := by
    refine ⟨hown.1, ?_⟩
    rcases hown.2 with hv | ⟨g, cap, cur, hv, hB, hg⟩
    ·exact .inl hv
    ·exact .inr ⟨g, cap, cur, hv, by have := HB1.out.size; omega, hg⟩
   obtain ⟨po, co, rfl⟩ := hown.shape
   clear hown hb
   go_wp2
   refine bodyPost_ret (by simp [results, Tryz.results6, go_sem]; try rfl) rfl ?_
   exact ⟨_, rfl, HOW.out, HB.out⟩
end Go.Proofs.YtmiidhgbdecdkaaGreat
namespace Go.Proofs.YtmiidhgbdecdkaaGreat
open Go.RowKit Go.Maps Go.Sort
set_option linter.unusedVariables false
set_option linter.unusedSimpArgs false
def bytesS : List (List UInt8) := namesS.map fun k => k.data.toList
theorem bytes_nodup : bytesS.Nodup := by decide
theorem bytes_sorted : bytesS.mergeSort (fun x y => decide (x ≤ y)) = bytesS := by
 refine List.mergeSort_of_pairwise ?_
 decide
theorem all_namesB : (allE.all fun e => namesS.any fun k => decide (k = e.1)) = true := by decide
theorem names_allB : (namesS.all fun k => allE.any fun e => decide (e.1 = k)) = true := by decide
theorem all_names (e : Rent) (h : e ∈ allE) : e.1 ∈ namesS := by
 obtain ⟨k, hk, he⟩ := List.any_eq_true.1 (List.all_eq_true.1 all_namesB e h)
 rw [← of_decide_eq_true he]
 exact hk
theorem names_all (k : ByteArray) (h : k ∈ namesS) : k ∈ allE.map fun e => e.1 := by
 obtain ⟨e, he, hk⟩ := List.any_eq_true.1 (List.all_eq_true.1 names_allB k h)
 exact List.mem_map.2 ⟨e, he, of_decide_eq_true hk⟩
theorem bytes_mem (x : List UInt8) : x ∈ bytesS ↔ (⟨x.toArray⟩ : ByteArray) ∈ namesS := by
 unfold bytesS
 rw [List.mem_map]
 constructor
 ·rintro ⟨k, hk, rfl⟩
  exact hk
 ·intro h
  exact ⟨_, h, by simp⟩
theorem Tab.keys {w : World} {b : Nat} (h : Tab w b) : ∃ (n : Nat) (D : DataW Value), w.ownsMap Tryz.prog 9 hR b n D ∧ n ≤ 1000 ∧ bytesS.Perm (strKeys D) := by
 obtain ⟨n, f, h1, ⟨D, h2, h3⟩, h4⟩ := h
 refine ⟨n, D, h2, h1, Collected.perm (left := fun _ => false) (ss := bytesS) ⟨bytes_nodup, fun x => ?_⟩ h2 strK Tryz.underlying9 (fun _ => rfl)⟩
 have e : (.string x : Lit) = litS ⟨x.toArray⟩ := by simp [litS]
 rw [bytes_mem, e, MapF.has h3]
 constructor
 ·intro hk
  obtain ⟨en, he, hn⟩ := List.mem_map.1 (names_all _ hk)
  obtain ⟨v, hv⟩ := h4.2 en he
  rw [hn] at hv
  exact ⟨by rw [hv]; rfl, rfl⟩
 ·rintro ⟨hs, -⟩
  obtain ⟨v, hv⟩ := Option.isSome_iff_exists.1 hs
  obtain ⟨en, he, hn, -⟩ := h4.1 _ v hv
  rw [← hn]
  exact all_names en he
theorem row_names : bytesS.map encStr = strT namesS := by
 unfold bytesS strT
 rw [List.map_map]
 refine List.map_congr_left fun k hk => ?_
 simp [encStr]
end Go.Proofs.YtmiidhgbdecdkaaGreat
namespace Go.Proofs.YtmiidhgbdecdkaaGreat
open Go.RowKit
set_option linter.unusedVariables false
set_option linter.unusedSimpArgs false
def nmAt (i : Nat) : ByteArray := ((rowsA.map fun r => r.name)[i]?).getD ⟨#[]⟩
def NmRow (w : World) (g k : Nat) : Prop := ∃ cur, w.heap[g]? = some (.cells cur 9) ∧ ∀ j, k ≤ j → j < 17 → cur[j]? = some (.string (nmAt j))
theorem NmRow.blk {w w' : World} {g k : Nat} (h : NmRow w g k) (hb : w'.heap[g]? = w.heap[g]?) : NmRow w' g k := by
 obtain ⟨cur, h1, h2⟩ := h
 exact ⟨cur, hb.trans h1, h2⟩
theorem NmRow.at {w : World} {g k : Nat} (h : NmRow w g k) {j : Nat} (h1 : k ≤ j) (h2 : j < 17) : w.cell? ⟨g, j, none⟩ = some (.string (nmAt j)) ∧ w.frozen? ⟨g, j, none⟩ = false := by
 obtain ⟨cur, h3, h4⟩ := h
 exact at_cellA h3 j (h4 j h1 h2)
theorem NmRow.lt {w : World} {g k : Nat} (h : NmRow w g k) : g < w.heap.size := by
 obtain ⟨cur, h3, h4⟩ := h
 exact (Array.getElem?_eq_some_iff.1 h3).1
theorem NmRow.spoil {w : World} {g k : Nat} (h : NmRow w g k) (v : Value) : NmRow (w.setCell ⟨g, k, none⟩ v) g (k + 1) := by
 obtain ⟨cur, h3, h4⟩ := h
 refine ⟨_, put_oneA h3 k v, fun j h1 h2 => ?_⟩
 rw [Array.getElem?_setIfInBounds_ne (by omega)]
 exact h4 j (by omega) h2
set_option maxRecDepth 100000 in
set_option maxHeartbeats 4000000 in
theorem namesl_core (w : World)
  (HNA : Hid (∀ x : World, Calls Tryz.prog 5 #[] x fun e w' => ∃ g c, e = .returned (.slice (some ⟨g, 0, none⟩) 17 c) ∧ x.heap.size ≤ g ∧ NmRow w' g 0 ∧ Below x.heap.size x w'))
  (HRN : Hid (∀ x : World, Calls Tryz.prog 6 #[] x fun e w' => ∃ g c, e = .returned (.slice (some ⟨g, 0, none⟩) 17 c) ∧ x.heap.size ≤ g ∧ NmRow w' g 0 ∧ Below x.heap.size x w'))
  (HWK : Hid (∀ x : World, Calls Tryz.prog 7 #[] x fun e w' => e = .returned (.bool true) ∧ Below x.heap.size x w')) :
  Calls Tryz.prog 3 #[] w fun e w' => e = .returned (.bool true) ∧ Below w.heap.size w w' := by
 go_enter Tryz.func3, Tryz.ntmps3
 go_wp2_with (first
  | (go_at_call 5; (with_reducible refine (HNA.out _).mono ?_); rintro e v1 ⟨ga, ca, rfl, hga, hra, hb1⟩; have HA1 : Hid (w.heap.size ≤ ga ∧ NmRow v1 ga 0) := ⟨hga, hra⟩; have HB1 : Hid (Below w.heap.size w v1) := hb1; clear hga hra hb1)
  | (go_at_call 6; (with_reducible refine (HRN.out _).mono ?_); rintro e v2 ⟨gb, cb, rfl, hgb, hrb, hb2⟩; have HA2 : Hid (v1.heap.size ≤ gb ∧ NmRow v2 gb 0) := ⟨hgb, hrb⟩; have HB2 : Hid (Below v1.heap.size v1 v2) := hb2; clear hgb hrb hb2))
 have HNE : Hid (gb ≠ ga) := by have := HA1.out.2.lt; have := HA2.out.1; show _ ≠ _; omega
 go_loopw [3] (fun iv wr => ∃ i : Nat, i ≤ 17 ∧ iv = .int .i64 i ∧ Hid (Below w.heap.size w wr ∧ NmRow wr ga i ∧ NmRow wr gb 0)) (fun iv _ => 17 - (intOf iv).toNat)
 case atStart => exact ⟨0, Nat.zero_le _, rfl, bel HB1.out HB2.out, HA1.out.2.blk (HB2.out.block _ HA1.out.2.lt), HA2.out.2⟩
 case round =>
  obtain ⟨i, hi, rfl, HS⟩ := hrel
  by_cases hlt0 : i < 17
  ·have i1 : (0 : Int) ≤ (i : Int) := by omega
   have i2 : (i : Int) < 17 := by omega
   have ha := HS.out.2.1.at (Nat.le_refl i) hlt0
   have hb := HS.out.2.2.at (Nat.zero_le i) hlt0
   obtain ⟨x, hx⟩ : ∃ x, nmAt i = x := ⟨_, rfl⟩
   rw [hx] at ha hb
   obtain ⟨ha1, ha2⟩ := ha
   obtain ⟨hb1, -⟩ := hb
   clear hx
   go_wp2
   go_quiet (fail)
   go_wp2
   go_roundw
   case rel => exact ⟨i + 1, by omega, by go_num, Below.setCell (bel HS.out.1 (bel_dn _ _)) (p := ⟨ga, i, none⟩) HA1.out.1 _, NmRow.spoil (HS.out.2.1.blk rfl) _, HS.out.2.2.blk (by simp [World.setCell, Array.getElem?_modify, Ne.symm HNE.out, go_sem])⟩
   case measure => simp [intOf]; omega
  ·obtain rfl : i = 17 := by omega
   have i2 : ¬ ((17 : Int) < 17) := by omega
   go_wp2_with (go_at_call 5; (with_reducible refine (HNA.out _).mono ?_); rintro e v3 ⟨gc, cc, rfl, hgc, hrc, hb3⟩; have hcb := (HS.out.2.2.blk (hb3.block _ HS.out.2.2.lt)).at (Nat.zero_le 0) (by omega); have hcc := hrc.at (Nat.zero_le 0) (by omega); obtain ⟨y, hy⟩ : ∃ y, nmAt 0 = y := ⟨_, rfl⟩; rw [hy] at hcb hcc; obtain ⟨hcb1, -⟩ := hcb; obtain ⟨hcc1, -⟩ := hcc; have HB3 : Hid (Below w.heap.size w v3) := bel HS.out.1 hb3; clear hgc hrc hb3 hy)
   go_region_held3 (fun w' => w'.cell? ⟨gb, 0, none⟩ = some (.string y) ∧ w'.cell? ⟨gc, 0, none⟩ = some (.string y)) (go_keep) (first
    | (go_at_call 7; (with_reducible refine (HWK.out _).mono ?_); rintro e v4 ⟨rfl, hb4⟩; have HB4 : Hid (Below w.heap.size w v4) := (by first | exact bel HB3.out hb4 | exact bel HB3.out (bel (by go_grown) hb4) | exact bel HB3.out (bel (bel_dn _ _) hb4) | exact bel HB3.out (bel (bel_d _) hb4)); have hcb2 := (hb4.cell (mcell_lt hcb1)).trans hcb1; have hcc2 := (hb4.cell (mcell_lt hcc1)).trans hcc1; clear hb4))
   go_wp2
   refine bodyPost_ret (by simp [results, Tryz.results3, go_sem]; try rfl) rfl ?_
   exact ⟨rfl, HB4.out⟩
end Go.Proofs.YtmiidhgbdecdkaaGreat
namespace Go.Proofs.YtmiidhgbdecdkaaGreat
open Go.RowKit Go.Maps Go.Sort Go.Shelf

def sh_keys_ren : Go.Shelf.Ren := ⟨fun | 7 => 14 | 10 => 31 | n => n, fun | 23 => 43 | 26 => 9 | 3 => 47 | 28 => 40 | 0 => 0 | 27 => 39 | 33 => 67 | 4 => 4 | n => n, fun | n => n⟩

theorem sh_keys : Go.Proofs.SlLaysZ.n7 Tryz.prog sh_keys_ren := {
  mixed := by kernel_rfl
  f7 := ⟨Tryz.f14.name, by decide, Tryz.func14.trans (congrArg some (by kernel_rfl))⟩
  f10 := ⟨Tryz.f31.name, by decide, Tryz.func31.trans (congrArg some (by kernel_rfl))⟩
  t0 := Tryz.underlying0
  a0 := Tryz.isAgg0
  z0 := Tryz.sizeOf0
  v0 := Tryz.zeroValue0
  t4 := Tryz.underlying4
  a4 := Tryz.isAgg4
  z4 := Tryz.sizeOf4
  v4 := Tryz.zeroValue4
  t23 := Tryz.underlying43
  a23 := Tryz.isAgg43
  z23 := Tryz.sizeOf43
  v23 := Tryz.zeroValue43
  t26 := Tryz.underlying9
  a26 := Tryz.isAgg9
  z26 := Tryz.sizeOf9
  v26 := Tryz.zeroValue9
  t27 := Tryz.underlying39
  a27 := Tryz.isAgg39
  z27 := Tryz.sizeOf39
  v27 := Tryz.zeroValue39
  t28 := Tryz.underlying40
  a28 := Tryz.isAgg40
  z28 := Tryz.sizeOf40
  v28 := Tryz.zeroValue40
  t33 := Tryz.underlying67
  a33 := Tryz.isAgg67
  z33 := Tryz.sizeOf67
  v33 := Tryz.zeroValue67 }

def sh_sorted_ren : Go.Shelf.Ren := ⟨fun | 6 => 13 | 8 => 29 | 9 => 30 | 11 => 57 | 13 => 59 | 12 => 58 | 23 => 102 | 24 => 103 | 14 => 93 | 15 => 94 | 16 => 95 | 17 => 96 | 18 => 97 | 19 => 98 | 20 => 99 | 21 => 100 | 22 => 101 | 25 => 122 | 26 => 123 | 27 => 124 | 28 => 125 | 29 => 126 | 30 => 127 | 31 => 138 | n => n, fun | 26 => 9 | 28 => 40 | 24 => 22 | 0 => 0 | 3 => 3 | 37 => 114 | 48 => 25 | 50 => 151 | 4 => 4 | 40 => 143 | 39 => 142 | 45 => 129 | 5 => 5 | 9 => 9 | 51 => 159 | 55 => 163 | 57 => 179 | 58 => 64 | 33 => 67 | n => n, fun | n => n⟩

theorem sh_sorted : Go.Proofs.SlLaysZ.n6 Tryz.prog sh_sorted_ren := {
  mixed := by kernel_rfl
  f6 := ⟨Tryz.f13.name, by decide, Tryz.func13.trans (congrArg some (by kernel_rfl))⟩
  f8 := ⟨Tryz.f29.name, by decide, Tryz.func29.trans (congrArg some (by kernel_rfl))⟩
  f11 := ⟨Tryz.f57.name, by decide, Tryz.func57.trans (congrArg some (by kernel_rfl))⟩
  t0 := Tryz.underlying0
  a0 := Tryz.isAgg0
  z0 := Tryz.sizeOf0
  v0 := Tryz.zeroValue0
  t24 := Tryz.underlying22
  a24 := Tryz.isAgg22
  z24 := Tryz.sizeOf22
  v24 := Tryz.zeroValue22
  t26 := Tryz.underlying9
  a26 := Tryz.isAgg9
  z26 := Tryz.sizeOf9
  v26 := Tryz.zeroValue9
  t28 := Tryz.underlying40
  a28 := Tryz.isAgg40
  z28 := Tryz.sizeOf40
  v28 := Tryz.zeroValue40
  i26 := by kernel_rfl }

def sh_sort_ren : Go.Shelf.Ren := ⟨fun | 6 => 30 | 8 => 59 | 9 => 58 | 19 => 102 | 20 => 103 | 21 => 93 | 22 => 94 | 23 => 95 | 24 => 96 | 25 => 97 | 26 => 98 | 27 => 99 | 28 => 100 | 29 => 101 | 36 => 122 | 31 => 123 | 32 => 124 | 37 => 125 | 38 => 126 | 39 => 127 | 41 => 138 | n => n, fun | 27 => 22 | 29 => 9 | 3 => 3 | 32 => 114 | 26 => 22 | 0 => 0 | 44 => 25 | 46 => 151 | 4 => 4 | 36 => 143 | 35 => 142 | 41 => 129 | 5 => 5 | 9 => 9 | 53 => 159 | 57 => 163 | 63 => 179 | 64 => 64 | n => n, fun | n => n⟩

theorem sh_sort : Go.Proofs.SlLaysM.n6 Tryz.prog sh_sort_ren := {
  mixed := by kernel_rfl
  f6 := ⟨Tryz.f30.name, by decide, Tryz.func30.trans (congrArg some (by kernel_rfl))⟩
  f8 := Tryz.func59.trans (congrArg some (by kernel_rfl))
  f9 := ⟨Tryz.f58.name, by decide, Tryz.func58.trans (congrArg some (by kernel_rfl))⟩
  f19 := Tryz.func102.trans (congrArg some (by kernel_rfl))
  f20 := Tryz.func103.trans (congrArg some (by kernel_rfl))
  f21 := ⟨Tryz.f93.name, by decide, Tryz.func93.trans (congrArg some (by kernel_rfl))⟩
  f22 := ⟨Tryz.f94.name, by decide, Tryz.func94.trans (congrArg some (by kernel_rfl))⟩
  f23 := ⟨Tryz.f95.name, by decide, Tryz.func95.trans (congrArg some (by kernel_rfl))⟩
  f24 := ⟨Tryz.f96.name, by decide, Tryz.func96.trans (congrArg some (by kernel_rfl))⟩
  f25 := ⟨Tryz.f97.name, by decide, Tryz.func97.trans (congrArg some (by kernel_rfl))⟩
  f26 := ⟨Tryz.f98.name, by decide, Tryz.func98.trans (congrArg some (by kernel_rfl))⟩
  f27 := ⟨Tryz.f99.name, by decide, Tryz.func99.trans (congrArg some (by kernel_rfl))⟩
  f28 := ⟨Tryz.f100.name, by decide, Tryz.func100.trans (congrArg some (by kernel_rfl))⟩
  f29 := ⟨Tryz.f101.name, by decide, Tryz.func101.trans (congrArg some (by kernel_rfl))⟩
  f31 := Tryz.func123.trans (congrArg some (by kernel_rfl))
  f32 := Tryz.func124.trans (congrArg some (by kernel_rfl))
  f36 := ⟨Tryz.f122.name, by decide, Tryz.func122.trans (congrArg some (by kernel_rfl))⟩
  f37 := ⟨Tryz.f125.name, by decide, Tryz.func125.trans (congrArg some (by kernel_rfl))⟩
  f38 := ⟨Tryz.f126.name, by decide, Tryz.func126.trans (congrArg some (by kernel_rfl))⟩
  f39 := ⟨Tryz.f127.name, by decide, Tryz.func127.trans (congrArg some (by kernel_rfl))⟩
  f41 := ⟨Tryz.f138.name, by decide, Tryz.func138.trans (congrArg some (by kernel_rfl))⟩
  t0 := Tryz.underlying0
  a0 := Tryz.isAgg0
  z0 := Tryz.sizeOf0
  v0 := Tryz.zeroValue0
  t3 := Tryz.underlying3
  a3 := Tryz.isAgg3
  z3 := Tryz.sizeOf3
  v3 := Tryz.zeroValue3
  t4 := Tryz.underlying4
  a4 := Tryz.isAgg4
  z4 := Tryz.sizeOf4
  v4 := Tryz.zeroValue4
  t5 := Tryz.underlying5
  a5 := Tryz.isAgg5
  z5 := Tryz.sizeOf5
  v5 := Tryz.zeroValue5
  t9 := Tryz.underlying9
  a9 := Tryz.isAgg9
  z9 := Tryz.sizeOf9
  v9 := Tryz.zeroValue9
  t26 := Tryz.underlying22
  a26 := Tryz.isAgg22
  z26 := Tryz.sizeOf22
  v26 := Tryz.zeroValue22
  t27 := Tryz.underlying22
  a27 := Tryz.isAgg22
  z27 := Tryz.sizeOf22
  v27 := Tryz.zeroValue22
  t29 := Tryz.underlying9
  a29 := Tryz.isAgg9
  z29 := Tryz.sizeOf9
  v29 := Tryz.zeroValue9
  t32 := Tryz.underlying114
  a32 := Tryz.isAgg114
  z32 := Tryz.sizeOf114
  v32 := Tryz.zeroValue114
  t35 := Tryz.underlying142
  a35 := Tryz.isAgg142
  z35 := Tryz.sizeOf142
  v35 := Tryz.zeroValue142
  t36 := Tryz.underlying143
  a36 := Tryz.isAgg143
  z36 := Tryz.sizeOf143
  v36 := Tryz.zeroValue143
  t41 := Tryz.underlying129
  a41 := Tryz.isAgg129
  z41 := Tryz.sizeOf129
  v41 := Tryz.zeroValue129
  t44 := Tryz.underlying25
  a44 := Tryz.isAgg25
  z44 := Tryz.sizeOf25
  v44 := Tryz.zeroValue25
  t46 := Tryz.underlying151
  a46 := Tryz.isAgg151
  z46 := Tryz.sizeOf151
  v46 := Tryz.zeroValue151
  t53 := Tryz.underlying159
  a53 := Tryz.isAgg159
  z53 := Tryz.sizeOf159
  v53 := Tryz.zeroValue159
  t57 := Tryz.underlying163
  a57 := Tryz.isAgg163
  z57 := Tryz.sizeOf163
  v57 := Tryz.zeroValue163
  t63 := Tryz.underlying179
  a63 := Tryz.isAgg179
  z63 := Tryz.sizeOf179
  v63 := Tryz.zeroValue179
  t64 := Tryz.underlying64
  a64 := Tryz.isAgg64
  z64 := Tryz.sizeOf64
  v64 := Tryz.zeroValue64 }

theorem sh_sorts (m : Nat) : AnyZ.SortsIn Tryz.prog sh_sorted_ren Fence.wide m :=
  ⟨fun blk off cap ss W hH hblk hsz => callsIn_wide.2 (AnyM.slices_Sort_string sh_sort blk off cap ss W hH hblk hsz),
   fun p cap W => callsIn_wide.2 (AnyM.slices_Sort_string_none sh_sort p cap W)⟩

theorem sh_maps_Keys (mb : Option Nat) (W : World) : CallsIn Fence.wide 5 Tryz.prog 14 #[.map mb] W fun e w' => e = .returned (.func (.func 31) #[] #[.pointer (some ⟨W.heap.size, 0, none⟩)]) ∧ w' = W.alloc (.cells #[.map mb] 43) :=
  AnyZ.keys_in sh_keys Fence.wide 5 trivial rfl mb W

set_option maxHeartbeats 1000000 in
theorem sh_sorted_keys {H : Type} (b nn : Nat) (D0 : DataW H) (R : Value → Option (DataW H × List MemPlace)) (w : World) (hown : w.ownsMap Tryz.prog 9 R b nn D0) (hmax : Go.Maps.size D0 ≤ maxLen) (hbytes : Go.Maps.size D0 * 16 ≤ 140737488355328) :
    CallsIn Fence.wide 5 Tryz.prog 13 #[.func (.func 31) #[] #[.pointer (some ⟨w.heap.size, 0, none⟩)]] (w.alloc (.cells #[.map (some b)] 43)) fun e w' => ∃ (v : Value) (ss : List (List UInt8)), e = .returned v ∧ ss.Perm (strKeys D0) ∧
      w'.ownsRow (w.alloc (.cells #[.map (some b)] 43)).heap.size 9 1 v ss.length ((ss.mergeSort (fun x y => decide (x ≤ y))).map encStr) ∧ (v = .slice none 0 0 ↔ ss = []) ∧ Below (w.alloc (.cells #[.map (some b)] 43)).heap.size (w.alloc (.cells #[.map (some b)] 43)) w' := by
  have hbl := hown.lt
  have hseq : SeqGives Fence.wide 2 Tryz.prog 31 #[.pointer (some ⟨w.heap.size, 0, none⟩)] encStr (fun ss => ss.Perm (strKeys D0)) (Go.Maps.size D0) (w.alloc (.cells #[.map (some b)] 43)) :=
    AnyZ.keys_gives (ρ := sh_keys_ren) { sh_keys with } Fence.wide _ trivial rfl (by omega) w.heap.size b nn D0 _ (by simp) (by simp) (by
      obtain ⟨es, clock, hb, Ft, hs, hD⟩ := hown
      exact ⟨es, clock, (Below.heap_alloc _ _ b hbl).trans hb, Ft, hs, hD⟩)
  exact AnyZ.sorted_in sh_sorted Fence.wide 5 trivial trivial trivial trivial rfl (by omega) (sh_sorts _) (enters_of Tryz.func30 (by kernel_rfl) rfl) 31 #[.pointer (some ⟨w.heap.size, 0, none⟩)] trivial (enters_of Tryz.func31 (by kernel_rfl) rfl) _ _ hmax hbytes _ hseq

end Go.Proofs.YtmiidhgbdecdkaaGreat
namespace Go.Proofs.YtmiidhgbdecdkaaGreat
open Go.RowKit Go.Maps Go.Sort Go.Shelf
set_option linter.unusedVariables false
set_option linter.unusedSimpArgs false
theorem OwnT.nm {w : World} {B : Nat} {v : Value} (h : OwnT w B v namesS) : ∃ g c, v = .slice (some ⟨g, 0, none⟩) 17 c ∧ B ≤ g ∧ NmRow w g 0 := by
 rcases h.2 with ⟨hv, hn⟩ | ⟨g, cap, cur, hv, hB, hg, hc1, hc2, hsz, htk⟩
 ·rw [names_len] at hn
  cases hn
 ·refine ⟨g, cap, hv, hB, cur, hg, fun j _ hj => ?_⟩
  have e : cur.toList[j]? = (strT namesS)[j]? := by
   rw [← htk, List.getElem?_take_of_lt (by rw [names_len]; omega)]
  have hj2 : j < namesS.length := hj
  have e2 : (strT namesS)[j]? = some (.string (nmAt j)) := by
   have : nmAt j = namesS[j] := by unfold nmAt; show (namesS[j]?).getD _ = _; rw [List.getElem?_eq_getElem hj2]; rfl
   rw [this]
   simp [strT, hj2]
  rw [e2] at e
  simpa using e
set_option maxRecDepth 100000 in
set_option maxHeartbeats 2000000 in
theorem anames_any (w : World) :
  Calls Tryz.prog 5 #[] w fun e w' => ∃ v, e = .returned v ∧ OwnT w' w.heap.size v namesS ∧ Below w.heap.size w w' := by
 refine (callsIn_wide (n := 6)).1 ?_
 have hfR : Fence.wide.fn 15 := trivial
 have hfK : Fence.wide.fn 14 := trivial
 have hfS : Fence.wide.fn 13 := trivial
 refine callsIn_of_wp Tryz.func5 rfl trivial ?_ rfl
 simp only [Tryz.ntmps5, List.size_toArray, List.length_cons, List.length_nil, Nat.reduceAdd, Nat.reduceSub, Array.replicate_succ, Array.replicate_zero, List.push_toArray, List.append_toArray, List.nil_append, List.cons_append]
 gi_wp2_with (first
  | (gi_at_call 15; refine (callsIn_wide.2 (table_any _)).mono ?_; rintro e v1 ⟨b, rfl, ht, hbb, hb1⟩; obtain ⟨nn, D, hown, hnn, hperm⟩ := ht.keys; have hsz := hown.size_le)
  | (gi_at_call 14; refine (sh_maps_Keys _ _).mono ?_; rintro e w' ⟨rfl, rfl⟩)
  | (gi_at_call 13; refine (sh_sorted_keys b nn D hR v1 hown (by unfold maxLen; omega) (by omega)).mono ?_; rintro e w' ⟨v, ss, rfl, hS, hrow, hnil, hb⟩))
 go_ret
 have hss : ss.mergeSort (fun x y => decide (x ≤ y)) = bytesS := (mergeSort_of_perm (hS.trans hperm.symm)).trans bytes_sorted
 have hl : ss.length = namesS.length := by rw [(hS.trans hperm.symm).length_eq]; rfl
 rw [hss, row_names, hl] at hrow
 refine ⟨v, rfl, ?_, bel hb1 (((Below.refl _ v1).alloc (Nat.le_refl _) _).trans (hb.mono (by simp)))⟩
 refine ⟨hrow.1, ?_⟩
 rcases hrow.2 with hv | ⟨g, cap, cur, hv, hB, hg⟩
 ·exact .inl hv
 ·exact .inr ⟨g, cap, cur, hv, by have := hb1.size; simp at hB; omega, hg⟩
theorem walk_AliasNames (w : World) :
  Calls Tryz.prog 3 #[] w fun e w' => e = .returned (.bool true) ∧ Below w.heap.size w w' :=
 namesl_core w
  (fun x => (anames_any x).mono fun e w' ⟨v, h1, h2, h3⟩ => by obtain ⟨g, c, rfl, h4, h5⟩ := h2.nm; exact ⟨g, c, h1, h4, h5, h3⟩)
  (fun x => (rnames12_any x).mono fun e w' ⟨v, h1, h2, h3⟩ => by obtain ⟨g, c, rfl, h4, h5⟩ := h2.nm; exact ⟨g, c, h1, h4, h5, h3⟩)
  (fun x => works_any x)
end Go.Proofs.YtmiidhgbdecdkaaGreat
