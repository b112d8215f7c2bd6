import Derived.Test.YtnogokikiekcbaaSchedJoinsW
/- The statement SchedPairs: its walk. -/
namespace Go.Proofs.Ytnogokikiekcbaa
open Go.RowKit
set_option linter.unusedVariables false
set_option linter.unusedSimpArgs false

theorem mayL_any : ∀ (l : List Sc) (d n m : Nat), mayL d n l = some m → ∀ n', scntL l ≤ n' → mayL d n' l = some (n' - scntL l) := by
  apply sforest (P := fun l => ∀ (d n m : Nat), mayL d n l = some m → ∀ n', scntL l ≤ n' → mayL d n' l = some (n' - scntL l))
  · intro d n m h n' hn
    rw [mayL_nil, scntL_nil]; rfl
  · intro t r h1 h2 d n m h n' hn
    rw [mayL_cons] at h ⊢
    rw [scntL_cons] at hn ⊢
    obtain ⟨k, hk, h⟩ := Option.bind_eq_some_iff.1 h
    unfold may at hk
    split at hk
    · cases hk
    · rename_i hc
      have e1 := h1 _ _ _ hk (n' - 1) (by unfold scnt at hn; omega)
      have e : may d n' t = some (n' - scnt t) := by
        unfold may
        rw [if_neg (fun h => hc (h.elim (fun h => .inl h) (fun h => h.elim (fun h => by unfold scnt at hn; omega) (fun h => .inr (.inr h))))), e1]
        unfold scnt
        congr 1
        omega
      rw [e, Option.bind_some, h2 _ _ _ h (n' - scnt t) (by omega)]
      congr 1
      omega
theorem may_any {t : Sc} {d n m : Nat} (h : may d n t = some m) {n' : Nat} (hn : scnt t ≤ n') : may d n' t = some (n' - scnt t) := by
  have := mayL_any [t] d n m (by rw [mayL_cons, h]; exact mayL_nil _ _) n' (by rw [scntL_cons, scntL_nil]; omega)
  rw [mayL_cons, scntL_cons, scntL_nil] at this
  obtain ⟨q, hq, h2⟩ := Option.bind_eq_some_iff.1 this
  rw [mayL_nil] at h2
  rw [hq, h2]; rfl
theorem may_two {a b : Sc} {d n : Nat} (h : (mayL d n [a, b]).isSome = true) : (mayL d n [b, a]).isSome = true := by
  obtain ⟨m, hm⟩ := Option.isSome_iff_exists.1 h
  have hs := mayL_le _ _ _ _ hm
  rw [scntL_cons, scntL_cons, scntL_nil] at hs
  rw [mayL_cons] at hm
  obtain ⟨k, hk, hm⟩ := Option.bind_eq_some_iff.1 hm
  rw [mayL_cons] at hm
  obtain ⟨k2, hk2, -⟩ := Option.bind_eq_some_iff.1 hm
  rw [mayL_cons, may_any hk2 (n' := n) (by omega), Option.bind_some, mayL_cons, may_any hk (n' := n - scnt b) (by omega), Option.bind_some, mayL_nil]
  rfl
theorem okS_two {a b : Sc} {op : Int} (h8 : 8 ≤ op) (h11 : op ≤ 11) : okS ⟨op, [], [], [a, b]⟩ = okS ⟨op, [], [], [b, a]⟩ := by
  have hf : ∀ k l : Sc, fitsP ⟨op, [], [], [k, l]⟩ = true := fun k l => by
    have hc : op = 8 ∨ op = 9 ∨ op = 10 ∨ op = 11 := by omega
    rcases hc with rfl | rfl | rfl | rfl <;> rfl
  unfold okS
  rw [may_go 64 4096 _ (by decide) (by decide) (hf a b), may_go 64 4096 _ (by decide) (by decide) (hf b a), Bool.eq_iff_iff]
  exact ⟨may_two, may_two⟩
theorem valueP_two {a b : Sc} (ha : sok a) (hb : sok b) (ka : okS a = true) (kb : okS b = true) {op : Int} (h8 : 8 ≤ op) (h11 : op ≤ 11) (n : Int) : valueP ⟨op, [], [], [a, b]⟩ n = valueP ⟨op, [], [], [b, a]⟩ n := by
  unfold valueP
  rw [okS_two h8 h11]
  have pa := pat_val a ha (okS_all ka) n
  have pb := pat_val b hb (okS_all kb) n
  have e : valT ⟨op, [], [], [a, b]⟩ n = valT ⟨op, [], [], [b, a]⟩ n := by
    have hc : op = 8 ∨ op = 9 ∨ op = 10 ∨ op = 11 := by omega
    rcases hc with rfl | rfl | rfl | rfl
    · rw [vt_8, vt_8, fadd_comm]
    · rw [vt_9, vt_9, fmul_comm]
    · rw [vt_10, vt_10, fmin_comm _ _ pa.1 pa.2 pb.1 pb.2]
    · rw [vt_11, vt_11, fmax_comm _ _ pa.1 pa.2 pb.1 pb.2]
  rw [e]
theorem valueP_after {a : Sc} {n : Int} (h0 : 0 ≤ n) : (valueP ⟨12, [], [0], [a]⟩ n).2 = 0 → (valueP ⟨12, [], [0], [a]⟩ n).1 = valT a n := by
  intro h
  rw [(valueP_ok h).2.2, vt_12, show max (n - 0) 0 = n by omega]
theorem valueP_hold {a : Sc} {n : Int} : (valueP ⟨13, [], [n], [a]⟩ n).2 = 0 → (valueP ⟨13, [], [n], [a]⟩ n).1 = valT a n := by
  intro h
  rw [(valueP_ok h).2.2, vt_13, show min n n = n by omega]
theorem cells8 (w : World) (x0 x1 x2 x3 x4 x5 x6 x7 : Value) (t : TypeId) : ∀ i, i < 8 → (w.alloc (.cells #[x0, x1, x2, x3, x4, x5, x6, x7] t)).cell? ⟨w.heap.size, i, none⟩ = #[x0, x1, x2, x3, x4, x5, x6, x7][i]? := fun i _ => cell_heap (box_heap w _) i
theorem sok_two {a b : Sc} {op : Int} (h8 : 8 ≤ op) (h11 : op ≤ 11) (ha : sok a) (hb : sok b) : sok ⟨op, [], [], [a, b]⟩ :=
  ⟨⟨⟨by show -9223372036854775808 ≤ op; omega, by show op ≤ 9223372036854775807; omega⟩, fun x hx => absurd hx List.not_mem_nil, fun x hx => absurd hx List.not_mem_nil, by simp, by simp, by simp⟩, (sokL_cons _ _).2 ⟨ha, (sokL_cons _ _).2 ⟨hb, sokL_nil⟩⟩⟩
theorem sok_one {a : Sc} {op g : Int} (h8 : 8 ≤ op) (h11 : op ≤ 13) (hg : -9223372036854775808 ≤ g ∧ g ≤ 9223372036854775807) (ha : sok a) : sok ⟨op, [], [g], [a]⟩ :=
  ⟨⟨⟨by show -9223372036854775808 ≤ op; omega, by show op ≤ 9223372036854775807; omega⟩, fun x hx => absurd hx List.not_mem_nil, fun x hx => by rw [List.mem_singleton.1 hx]; exact hg, by simp, by simp, by simp⟩, (sokL_cons _ _).2 ⟨ha, sokL_nil⟩⟩
/-- Two schedules in a row of their own. -/
theorem SV_two {w : World} {a b : Sc} {a1 a2 a3 b1 b2 b3 : Value} (op : Int) (ha : SV w a a1 a2 a3) (hb : SV w b b1 b2 b3) :
    SV (w.alloc (.cells #[.int .i64 a.op, a1, a2, a3, .int .i64 b.op, b1, b2, b3] 26)) ⟨op, [], [], [a, b]⟩ (.slice none 0 0) (.slice none 0 0) (.slice (some ⟨w.heap.size, 0, none⟩) 2 2) := by
  have k := cells8 w (.int .i64 a.op) a1 a2 a3 (.int .i64 b.op) b1 b2 b3 26
  have hbl := bel_alloc w (.cells #[.int .i64 a.op, a1, a2, a3, .int .i64 b.op, b1, b2, b3] 26)
  refine ⟨⟨_, _, rfl, .inl rfl⟩, ⟨_, _, rfl, .inl rfl⟩, ⟨_, _, rfl, .inr ⟨_, _, rfl, ?_⟩⟩⟩
  rw [SL_cons, SL_cons]
  exact ⟨(ha.below hbl).at_ (k 0 (by decide)) (k 1 (by decide)) (k 2 (by decide)) (k 3 (by decide)), (hb.below hbl).at_ (k 4 (by decide)) (k 5 (by decide)) (k 6 (by decide)) (k 7 (by decide)), SL_nil _ _ _⟩
theorem SV_one {w : World} {a : Sc} {a1 a2 a3 : Value} (op g : Int) (ha : SV w a a1 a2 a3) :
    SV ((w.alloc (.cells #[.int .i64 g] 3)).alloc (.cells #[.int .i64 a.op, a1, a2, a3] 26)) ⟨op, [], [g], [a]⟩ (.slice none 0 0) (.slice (some ⟨w.heap.size, 0, none⟩) 1 1) (.slice (some ⟨w.heap.size + 1, 0, none⟩) 1 1) := by
  have h1 := bel_alloc w (.cells #[.int .i64 g] 3)
  have k0 := cell_heap (box_heap w (.cells #[.int .i64 g] 3)) 0
  obtain ⟨W, hW⟩ : ∃ W, w.alloc (.cells #[.int .i64 g] 3) = W := ⟨_, rfl⟩
  have hs : w.heap.size + 1 = W.heap.size := by rw [← hW]; simp
  rw [hW] at h1 k0 ⊢
  rw [hs]
  have h2 := bel_alloc W (.cells #[.int .i64 a.op, a1, a2, a3] 26)
  refine ⟨⟨_, _, rfl, .inl rfl⟩, ⟨_, _, rfl, .inr ⟨_, _, rfl, fun i hi => ?_⟩⟩, ⟨_, _, rfl, .inr ⟨_, _, rfl, ?_⟩⟩⟩
  · have hi : i < 1 := hi
    match i, hi with
    | 0, _ => exact bcell k0 h2
  · rw [SL_cons]
    exact ⟨(ha.below h1).box, SL_nil _ _ _⟩

set_option maxRecDepth 100000 in
set_option maxHeartbeats 4000000 in
theorem walk_SchedPairs (t : Sc) (a1 a2 a3 : Value) (ha : sok t) (u : Sc) (b1 b2 b3 : Value) (hb : sok u) (n : Int) (hn : -9223372036854775808 ≤ n ∧ n ≤ 9223372036854775807) (w : World) (hS : SV w t a1 a2 a3) (hT : SV w u b1 b2 b3) :
    Calls Try.prog 8 #[.agg #[.int .i64 t.op, a1, a2, a3], .agg #[.int .i64 u.op, b1, b2, b3], .int .i64 n] w fun e w' => e = .returned (.bool true) ∧ Below w.heap.size w w' := by
  have hx := box_heap w (.cells #[.int .i64 t.op, a1, a2, a3] 26)
  have hb0 := bel_alloc w (.cells #[.int .i64 t.op, a1, a2, a3] 26)
  have hx' := box_heap (w.alloc (.cells #[.int .i64 t.op, a1, a2, a3] 26)) (.cells #[.int .i64 u.op, b1, b2, b3] 26)
  have hb1 := bel_alloc (w.alloc (.cells #[.int .i64 t.op, a1, a2, a3] 26)) (.cells #[.int .i64 u.op, b1, b2, b3] 26)
  rw [show (w.alloc (.cells #[.int .i64 t.op, a1, a2, a3] 26)).heap.size = w.heap.size + 1 by simp] at hx'
  have hxc : ∀ i, (w.alloc (.cells #[.int .i64 t.op, a1, a2, a3] 26)).cell? ⟨w.heap.size, i, none⟩ = #[.int .i64 t.op, a1, a2, a3][i]? := fun i => cell_heap hx i
  obtain ⟨W, hW⟩ : ∃ W, (w.alloc (.cells #[.int .i64 t.op, a1, a2, a3] 26)).alloc (.cells #[.int .i64 u.op, b1, b2, b3] 26) = W := ⟨_, rfl⟩
  rw [hW] at hx' hb1
  have HX : Hid (∀ v, Below W.heap.size W v → (v.cell? ⟨w.heap.size, 0, none⟩ = some (.int .i64 t.op) ∧ v.cell? ⟨w.heap.size, 1, none⟩ = some a1 ∧ v.cell? ⟨w.heap.size, 2, none⟩ = some a2 ∧ v.cell? ⟨w.heap.size, 3, none⟩ = some a3) ∧ v.cell? ⟨w.heap.size + 1, 0, none⟩ = some (.int .i64 u.op) ∧ v.cell? ⟨w.heap.size + 1, 1, none⟩ = some b1 ∧ v.cell? ⟨w.heap.size + 1, 2, none⟩ = some b2 ∧ v.cell? ⟨w.heap.size + 1, 3, none⟩ = some b3) := fun v hv =>
    ⟨⟨bcell (hxc 0) (bel hb1 hv), bcell (hxc 1) (bel hb1 hv), bcell (hxc 2) (bel hb1 hv), bcell (hxc 3) (bel hb1 hv)⟩, bcell (cell_heap hx' 0) hv, bcell (cell_heap hx' 1) hv, bcell (cell_heap hx' 2) hv, bcell (cell_heap hx' 3) hv⟩
  have hB0 := bel hb0 hb1
  have HB0 : Hid (Below w.heap.size w W) := hB0
  have hSW := hS.below hB0
  have hTW := hT.below hB0
  obtain ⟨g, hg⟩ : ∃ g, decide (9000 < scnt t) = g := ⟨_, rfl⟩
  have HG : Hid (∀ v, Below W.heap.size W v → Calls Try.prog 9 #[.agg #[.int .i64 t.op, a1, a2, a3]] v fun e w' => e = .returned (.bool g) ∧ Below v.heap.size v w') := fun v hv => by rw [← hg]; exact great_any t a1 a2 a3 v ha (hSW.below hv)
  obtain ⟨k, hk⟩ : ∃ g, decide (9000 < scnt u) = g := ⟨_, rfl⟩
  have HK : Hid (∀ v, Below W.heap.size W v → Calls Try.prog 9 #[.agg #[.int .i64 u.op, b1, b2, b3]] v fun e w' => e = .returned (.bool k) ∧ Below v.heap.size v w') := fun v hv => by rw [← hk]; exact great_any u b1 b2 b3 v hb (hTW.below hv)
  obtain ⟨⟨x0, x1, x2, x3⟩, y0, y1, y2, y3⟩ := HX.out W (bel0 W)
  have h01 := valueP_01 t n
  have h02 := valueP_01 u n
  have HVO : Hid ((valueP t n).2 = 0 → isCnt n = true ∧ okS t = true ∧ (valueP t n).1 = valT t n) := valueP_ok
  have HUO : Hid ((valueP u n).2 = 0 → isCnt n = true ∧ okS u = true ∧ (valueP u n).1 = valT u n) := valueP_ok
  have HV : Hid (∀ v, Below W.heap.size W v → Calls Try.prog 12 #[.agg #[.int .i64 t.op, a1, a2, a3], .int .i64 n] v fun e w' => e = .returned (.tuple #[.int .u32 (valueP t n).1, .int .i64 (valueP t n).2]) ∧ Below v.heap.size v w') := fun v hv => value_to t n a1 a2 a3 ha v (hSW.below hv)
  have HU : Hid (∀ v, Below W.heap.size W v → Calls Try.prog 12 #[.agg #[.int .i64 u.op, b1, b2, b3], .int .i64 n] v fun e w' => e = .returned (.tuple #[.int .u32 (valueP u n).1, .int .i64 (valueP u n).2]) ∧ Below v.heap.size v w') := fun v hv => value_to u n b1 b2 b3 hb v (hTW.below hv)
  obtain ⟨V, hV⟩ : ∃ V, (valueP t n).1 = V := ⟨_, rfl⟩
  obtain ⟨E, hE⟩ : ∃ E, (valueP t n).2 = E := ⟨_, rfl⟩
  obtain ⟨V', hV'⟩ : ∃ V, (valueP u n).1 = V := ⟨_, rfl⟩
  obtain ⟨E', hE'⟩ : ∃ E, (valueP u n).2 = E := ⟨_, rfl⟩
  rw [hV, hE] at HV HVO
  rw [hV', hE'] at HU HUO
  rw [hE] at h01
  rw [hE'] at h02
  have HWK : Hid (∀ v : World, Calls Try.prog 10 #[] v fun e w' => e = .returned (.bool true) ∧ Below v.heap.size v w') := works_any14
  have hbW : Below W.heap.size W W := bel0 W
  clear hx hx' hxc hb0 hb1 hg hk hV hE hV' hE' hB0
  cases g
  rotate_left 1
  · clear HV HVO HU HUO hS hSW hT hTW
    go_enter Try.func8, Try.ntmps8
    go_wp2_with (first
      | (go_at_call 9; (with_reducible refine (HG.out _ hbW).mono ?_); rintro e w1 ⟨rfl, hb1⟩)
      | (go_at_call 10; (with_reducible refine (HWK.out _).mono ?_); rintro e w2 ⟨rfl, hb2⟩))
    go_ret
    exact ⟨rfl, bel HB0.out (bel hb1 hb2)⟩
  cases k
  rotate_left 1
  · clear HV HVO HU HUO hS hSW hT hTW
    go_enter Try.func8, Try.ntmps8
    go_wp2_with (first
      | (go_at_call 9; (with_reducible refine (HG.out _ hbW).mono ?_); rintro e w1 ⟨rfl, hb1⟩; obtain ⟨⟨x0, x1, x2, x3⟩, y0, y1, y2, y3⟩ := HX.out w1 hb1; clear hbW)
      | (go_at_call 9; (with_reducible refine (HK.out _ hb1).mono ?_); rintro e w2 ⟨rfl, hb2⟩)
      | (go_at_call 10; (with_reducible refine (HWK.out _).mono ?_); rintro e w3 ⟨rfl, hb3⟩))
    go_ret
    exact ⟨rfl, bel HB0.out (bel hb1 (bel hb2 hb3))⟩
  rcases h01 with h01 | h01
  rotate_left 1
  · subst h01
    clear HVO HUO hS hSW hT hTW
    go_enter Try.func8, Try.ntmps8
    go_wp2_with (first
      | (go_at_call 9; (with_reducible refine (HG.out _ hbW).mono ?_); rintro e w1 ⟨rfl, hb1⟩; obtain ⟨⟨x0, x1, x2, x3⟩, y0, y1, y2, y3⟩ := HX.out w1 hb1; clear hbW)
      | (go_at_call 9; (with_reducible refine (HK.out _ hb1).mono ?_); rintro e w2 ⟨rfl, hb2⟩; have hb2 := bel hb1 hb2; obtain ⟨⟨x0, x1, x2, x3⟩, y0, y1, y2, y3⟩ := HX.out w2 hb2)
      | (go_at_call 12; (with_reducible refine (HV.out _ hb2).mono ?_); rintro e w3 ⟨rfl, hb3⟩; have hb3 := bel hb2 hb3; obtain ⟨⟨x0, x1, x2, x3⟩, y0, y1, y2, y3⟩ := HX.out w3 hb3)
      | (go_at_call 12; (with_reducible refine (HU.out _ hb3).mono ?_); rintro e w4 ⟨rfl, hb4⟩; have hb4 := bel hb3 hb4)
      | (go_at_call 10; (with_reducible refine (HWK.out _).mono ?_); rintro e w5 ⟨rfl, hb5⟩))
    go_ret
    exact ⟨rfl, bel HB0.out (bel hb4 hb5)⟩
  rcases h02 with h02 | h02
  rotate_left 1
  · subst h01 h02
    clear HVO HUO hS hSW hT hTW
    go_enter Try.func8, Try.ntmps8
    go_wp2_with (first
      | (go_at_call 9; (with_reducible refine (HG.out _ hbW).mono ?_); rintro e w1 ⟨rfl, hb1⟩; obtain ⟨⟨x0, x1, x2, x3⟩, y0, y1, y2, y3⟩ := HX.out w1 hb1; clear hbW)
      | (go_at_call 9; (with_reducible refine (HK.out _ hb1).mono ?_); rintro e w2 ⟨rfl, hb2⟩; have hb2 := bel hb1 hb2; obtain ⟨⟨x0, x1, x2, x3⟩, y0, y1, y2, y3⟩ := HX.out w2 hb2)
      | (go_at_call 12; (with_reducible refine (HV.out _ hb2).mono ?_); rintro e w3 ⟨rfl, hb3⟩; have hb3 := bel hb2 hb3; obtain ⟨⟨x0, x1, x2, x3⟩, y0, y1, y2, y3⟩ := HX.out w3 hb3)
      | (go_at_call 12; (with_reducible refine (HU.out _ hb3).mono ?_); rintro e w4 ⟨rfl, hb4⟩; have hb4 := bel hb3 hb4)
      | (go_at_call 10; (with_reducible refine (HWK.out _).mono ?_); rintro e w5 ⟨rfl, hb5⟩))
    go_ret
    exact ⟨rfl, bel HB0.out (bel hb4 hb5)⟩
  obtain ⟨hcn, hko, hvt⟩ := HVO.out h01
  obtain ⟨-, hku, hvu⟩ := HUO.out h02
  subst h01 h02
  obtain ⟨hn0, hn1⟩ := isCnt_iff hcn
  have HTWO : Hid (∀ op : Int, 8 ≤ op → op ≤ 11 → valueP ⟨op, [], [], [t, u]⟩ n = valueP ⟨op, [], [], [u, t]⟩ n) := fun op h8 h11 => valueP_two ha hb hko hku h8 h11 n
  have H12 : Hid (∀ (op : Int) v, 8 ≤ op → op ≤ 11 → Below W.heap.size W v → Calls Try.prog 12 #[.agg #[.int .i64 op, .slice none 0 0, .slice none 0 0, .slice (some ⟨v.heap.size, 0, none⟩) 2 2], .int .i64 n] (v.alloc (.cells #[.int .i64 t.op, a1, a2, a3, .int .i64 u.op, b1, b2, b3] 26)) fun e w' => e = .returned (.tuple #[.int .u32 (valueP ⟨op, [], [], [t, u]⟩ n).1, .int .i64 (valueP ⟨op, [], [], [t, u]⟩ n).2]) ∧ Below v.heap.size v w') := fun op v h8 h11 hv =>
    (value_to ⟨op, [], [], [t, u]⟩ n _ _ _ (sok_two h8 h11 ha hb) _ (SV_two op (hSW.below hv) (hTW.below hv))).mono fun e w' ⟨he, hb⟩ => ⟨he, bel (bel_alloc _ _) hb⟩
  have H21 : Hid (∀ (op : Int) v, 8 ≤ op → op ≤ 11 → Below W.heap.size W v → Calls Try.prog 12 #[.agg #[.int .i64 op, .slice none 0 0, .slice none 0 0, .slice (some ⟨v.heap.size, 0, none⟩) 2 2], .int .i64 n] (v.alloc (.cells #[.int .i64 u.op, b1, b2, b3, .int .i64 t.op, a1, a2, a3] 26)) fun e w' => e = .returned (.tuple #[.int .u32 (valueP ⟨op, [], [], [t, u]⟩ n).1, .int .i64 (valueP ⟨op, [], [], [t, u]⟩ n).2]) ∧ Below v.heap.size v w') := fun op v h8 h11 hv => by
    rw [HTWO.out op h8 h11]
    exact (value_to ⟨op, [], [], [u, t]⟩ n _ _ _ (sok_two h8 h11 hb ha) _ (SV_two op (hTW.below hv) (hSW.below hv))).mono fun e w' ⟨he, hb⟩ => ⟨he, bel (bel_alloc _ _) hb⟩
  have HAF : Hid (∀ v, Below W.heap.size W v → Calls Try.prog 12 #[.agg #[.int .i64 12, .slice none 0 0, .slice (some ⟨v.heap.size, 0, none⟩) 1 1, .slice (some ⟨v.heap.size + 1, 0, none⟩) 1 1], .int .i64 n] ((v.alloc (.cells #[.int .i64 0] 3)).alloc (.cells #[.int .i64 t.op, a1, a2, a3] 26)) fun e w' => e = .returned (.tuple #[.int .u32 (valueP ⟨12, [], [0], [t]⟩ n).1, .int .i64 (valueP ⟨12, [], [0], [t]⟩ n).2]) ∧ Below v.heap.size v w') := fun v hv =>
    (value_to ⟨12, [], [0], [t]⟩ n _ _ _ (sok_one (by decide) (by decide) (by decide) ha) _ (SV_one 12 0 (hSW.below hv))).mono fun e w' ⟨he, hb⟩ => ⟨he, bel (bel (bel_alloc _ _) (bel_alloc _ _)) hb⟩
  have HHO : Hid (∀ v, Below W.heap.size W v → Calls Try.prog 12 #[.agg #[.int .i64 13, .slice none 0 0, .slice (some ⟨v.heap.size, 0, none⟩) 1 1, .slice (some ⟨v.heap.size + 1, 0, none⟩) 1 1], .int .i64 n] ((v.alloc (.cells #[.int .i64 n] 3)).alloc (.cells #[.int .i64 t.op, a1, a2, a3] 26)) fun e w' => e = .returned (.tuple #[.int .u32 (valueP ⟨13, [], [n], [t]⟩ n).1, .int .i64 (valueP ⟨13, [], [n], [t]⟩ n).2]) ∧ Below v.heap.size v w') := fun v hv =>
    (value_to ⟨13, [], [n], [t]⟩ n _ _ _ (sok_one (by decide) (by decide) hn ha) _ (SV_one 13 n (hSW.below hv))).mono fun e w' ⟨he, hb⟩ => ⟨he, bel (bel (bel_alloc _ _) (bel_alloc _ _)) hb⟩
  have hA1 := valueP_after (a := t) hn0
  have hA2 := valueP_hold (a := t) (n := n)
  have hA3 := valueP_01 ⟨12, [], [0], [t]⟩ n
  have hA4 := valueP_01 ⟨13, [], [n], [t]⟩ n
  obtain ⟨P1, hP1⟩ : ∃ P, (valueP ⟨12, [], [0], [t]⟩ n).1 = P := ⟨_, rfl⟩
  obtain ⟨P2, hP2⟩ : ∃ P, (valueP ⟨12, [], [0], [t]⟩ n).2 = P := ⟨_, rfl⟩
  obtain ⟨Q1, hQ1⟩ : ∃ P, (valueP ⟨13, [], [n], [t]⟩ n).1 = P := ⟨_, rfl⟩
  obtain ⟨Q2, hQ2⟩ : ∃ P, (valueP ⟨13, [], [n], [t]⟩ n).2 = P := ⟨_, rfl⟩
  rw [hP1, hP2] at HAF hA1
  rw [hP2] at hA3
  rw [hQ1, hQ2] at HHO hA2
  rw [hQ2] at hA4
  rw [← hvt] at hA1 hA2
  have HA1 : Hid (P2 = 0 → P1 = V) := hA1
  have HA2 : Hid (Q2 = 0 → Q1 = V) := hA2
  have HA3 : Hid (P2 = 0 ∨ P2 = 1) := hA3
  have HA4 : Hid (Q2 = 0 ∨ Q2 = 1) := hA4
  clear hA1 hA2 hA3 hA4 hP1 hP2 hQ1 hQ2 hvt hvu HVO HUO HTWO hSW hTW hS hT hcn hko hku ha hb
  go_enter Try.func8, Try.ntmps8
  go_wp2_with (first
      | (go_at_call 9; (with_reducible refine (HG.out _ hbW).mono ?_); rintro e w1 ⟨rfl, hb1⟩; obtain ⟨⟨x0, x1, x2, x3⟩, y0, y1, y2, y3⟩ := HX.out w1 hb1; clear hbW)
      | (go_at_call 9; (with_reducible refine (HK.out _ hb1).mono ?_); rintro e w2 ⟨rfl, hb2⟩; have hb2 := bel hb1 hb2; obtain ⟨⟨x0, x1, x2, x3⟩, y0, y1, y2, y3⟩ := HX.out w2 hb2)
      | (go_at_call 12; (with_reducible refine (HV.out _ hb2).mono ?_); rintro e w3 ⟨rfl, hb3⟩; have hb3 := bel hb2 hb3; obtain ⟨⟨x0, x1, x2, x3⟩, y0, y1, y2, y3⟩ := HX.out w3 hb3)
      | (go_at_call 12; (with_reducible refine (HU.out _ hb3).mono ?_); rintro e w4 ⟨rfl, hb4⟩; have hb4 := bel hb3 hb4))
  clear x0 x1 x2 x3 y0 y1 y2 y3 HG HK HV HU
  go_loopw [11] (fun iv wr => Below W.heap.size W wr ∧ ∃ k : Nat, 8 ≤ k ∧ k ≤ 12 ∧ iv = .int .i64 k) (fun iv _ => 12 - (intOf iv).toNat)
  case atStart => exact ⟨hb4, 8, by omega, by omega, rfl⟩
  case round =>
    obtain ⟨hbr, k, hk8, hk12, rfl⟩ := hrel
    obtain ⟨⟨x0, x1, x2, x3⟩, y0, y1, y2, y3⟩ := HX.out wr hbr
    by_cases hkl : k ≤ 11
    · have z1 : (k : Int) ≤ 11 := by omega
      have z8 : (8 : Int) ≤ (k : Int) := by omega
      have h12 := H12.out k wr z8 z1 hbr
      have w1 : IntKind.i64.wrap ((k : Int) + 1) = (k : Int) + 1 := by rw [IntKind.wrap_i64]; omega
      obtain ⟨A, hA⟩ : ∃ A, (valueP ⟨(k : Int), [], [], [t, u]⟩ n).1 = A := ⟨_, rfl⟩
      obtain ⟨B, hB⟩ : ∃ A, (valueP ⟨(k : Int), [], [], [t, u]⟩ n).2 = A := ⟨_, rfl⟩
      have h21 : ∀ v, Below W.heap.size W v → _ := fun v hv => H21.out k v z8 z1 hv
      rw [hA, hB] at h12
      simp only [hA, hB] at h21
      have G12 : Hid (Calls Try.prog 12 #[.agg #[.int .i64 (k : Int), .slice none 0 0, .slice none 0 0, .slice (some ⟨wr.heap.size, 0, none⟩) 2 2], .int .i64 n] (wr.alloc (.cells #[.int .i64 t.op, a1, a2, a3, .int .i64 u.op, b1, b2, b3] 26)) fun e w' => e = .returned (.tuple #[.int .u32 A, .int .i64 B]) ∧ Below wr.heap.size wr w') := h12
      have G21 : Hid (∀ v, Below W.heap.size W v → Calls Try.prog 12 #[.agg #[.int .i64 (k : Int), .slice none 0 0, .slice none 0 0, .slice (some ⟨v.heap.size, 0, none⟩) 2 2], .int .i64 n] (v.alloc (.cells #[.int .i64 u.op, b1, b2, b3, .int .i64 t.op, a1, a2, a3] 26)) fun e w' => e = .returned (.tuple #[.int .u32 A, .int .i64 B]) ∧ Below v.heap.size v w') := h21
      clear h12 h21 hA hB H12 H21 HAF HHO HA1 HA2 HA3 HA4
      go_wp2_with (first
        | (go_at_call 12; (with_reducible refine G12.out.mono ?_); rintro e w5 ⟨rfl, hb5⟩; have hb5 := bel hbr hb5; obtain ⟨⟨x0, x1, x2, x3⟩, y0, y1, y2, y3⟩ := HX.out w5 hb5; clear G12)
        | (go_at_call 12; (with_reducible refine (G21.out _ hb5).mono ?_); rintro e w6 ⟨rfl, hb6⟩; have hb6 := bel hb5 hb6))
      go_roundw
      case rel => exact ⟨hb6, k + 1, by omega, by omega, by go_num⟩
      case measure => simp [intOf]; omega
    · have hk : k = 12 := by omega
      subst hk
      clear H12 H21
      have HP : Hid (∀ v, Below W.heap.size W v → Calls Try.prog 12 #[.agg #[.int .i64 12, .slice none 0 0, .slice (some ⟨v.heap.size, 0, none⟩) 1 1, .slice (some ⟨v.heap.size + 1, 0, none⟩) 1 1], .int .i64 n] ((v.alloc (.cells #[.int .i64 0] 3)).alloc (.cells #[.int .i64 t.op, a1, a2, a3] 26)) fun e w' => e = .returned (.tuple #[.int .u32 P1, .int .i64 P2]) ∧ Below v.heap.size v w') := HAF.out
      obtain ⟨⟨p0, p1, p2, p3⟩, -⟩ := HX.out (wr.alloc (.cells #[.int .i64 0] 3)) (bel hbr (bel_alloc _ _))
      rcases HA3.out with h3 | h3
      · have e1 := HA1.out h3
        subst h3 e1
        rcases HA4.out with h4 | h4
        · have e2 := HA2.out h4
          subst h4 e2
          clear HAF HA1 HA2 HA3 HA4
          go_wp2_with (first
            | (go_at_call 12; (with_reducible refine (HP.out _ hbr).mono ?_); rintro e w5 ⟨rfl, hb5⟩; have hb5 := bel hbr hb5; obtain ⟨⟨x0, x1, x2, x3⟩, y0, y1, y2, y3⟩ := HX.out w5 hb5; obtain ⟨⟨p0, p1, p2, p3⟩, -⟩ := HX.out (w5.alloc (.cells #[.int .i64 n] 3)) (bel hb5 (bel_alloc _ _)); clear HP)
            | (go_at_call 12; (with_reducible refine (HHO.out _ hb5).mono ?_); rintro e w6 ⟨rfl, hb6⟩; have hb6 := bel hb5 hb6)
            | (go_at_call 10; (with_reducible refine (HWK.out _).mono ?_); rintro e w7 ⟨rfl, hb7⟩))
          go_ret
          exact ⟨rfl, bel HB0.out (bel hb6 hb7)⟩
        · subst h4
          clear HAF HA1 HA2 HA3 HA4
          go_wp2_with (first
            | (go_at_call 12; (with_reducible refine (HP.out _ hbr).mono ?_); rintro e w5 ⟨rfl, hb5⟩; have hb5 := bel hbr hb5; obtain ⟨⟨x0, x1, x2, x3⟩, y0, y1, y2, y3⟩ := HX.out w5 hb5; obtain ⟨⟨p0, p1, p2, p3⟩, -⟩ := HX.out (w5.alloc (.cells #[.int .i64 n] 3)) (bel hb5 (bel_alloc _ _)); clear HP)
            | (go_at_call 12; (with_reducible refine (HHO.out _ hb5).mono ?_); rintro e w6 ⟨rfl, hb6⟩; have hb6 := bel hb5 hb6)
            | (go_at_call 10; (with_reducible refine (HWK.out _).mono ?_); rintro e w7 ⟨rfl, hb7⟩))
          go_ret
          exact ⟨rfl, bel HB0.out (bel hb6 hb7)⟩
      · subst h3
        rcases HA4.out with h4 | h4
        · have e2 := HA2.out h4
          subst h4 e2
          clear HAF HA1 HA2 HA3 HA4
          go_wp2_with (first
            | (go_at_call 12; (with_reducible refine (HP.out _ hbr).mono ?_); rintro e w5 ⟨rfl, hb5⟩; have hb5 := bel hbr hb5; obtain ⟨⟨x0, x1, x2, x3⟩, y0, y1, y2, y3⟩ := HX.out w5 hb5; obtain ⟨⟨p0, p1, p2, p3⟩, -⟩ := HX.out (w5.alloc (.cells #[.int .i64 n] 3)) (bel hb5 (bel_alloc _ _)); clear HP)
            | (go_at_call 12; (with_reducible refine (HHO.out _ hb5).mono ?_); rintro e w6 ⟨rfl, hb6⟩; have hb6 := bel hb5 hb6)
            | (go_at_call 10; (with_reducible refine (HWK.out _).mono ?_); rintro e w7 ⟨rfl, hb7⟩))
          go_ret
          exact ⟨rfl, bel HB0.out (bel hb6 hb7)⟩
        · subst h4
          clear HAF HA1 HA2 HA3 HA4
          go_wp2_with (first
            | (go_at_call 12; (with_reducible refine (HP.out _ hbr).mono ?_); rintro e w5 ⟨rfl, hb5⟩; have hb5 := bel hbr hb5; obtain ⟨⟨x0, x1, x2, x3⟩, y0, y1, y2, y3⟩ := HX.out w5 hb5; obtain ⟨⟨p0, p1, p2, p3⟩, -⟩ := HX.out (w5.alloc (.cells #[.int .i64 n] 3)) (bel hb5 (bel_alloc _ _)); clear HP)
            | (go_at_call 12; (with_reducible refine (HHO.out _ hb5).mono ?_); rintro e w6 ⟨rfl, hb6⟩; have hb6 := bel hb5 hb6)
            | (go_at_call 10; (with_reducible refine (HWK.out _).mono ?_); rintro e w7 ⟨rfl, hb7⟩))
          go_ret
          exact ⟨rfl, bel HB0.out (bel hb6 hb7)⟩

end Go.Proofs.Ytnogokikiekcbaa
