import Derived.Test.YtpidjmgifglmiabTreeCopyS
import Derived.Test.YtpidjmgifglmiabTreeStripW
/- Package tree: Strip, its rows apart. -/
namespace Go.Proofs.Ytpidjmgifglmiab
open Go.RowKit
set_option linter.unusedVariables false
set_option linter.unusedSimpArgs false

/-- A node of one's own, laid in a block: its walk without places. -/
theorem strip_outS (t : Nd) (hc : cnt t ≤ 9000) (C R : Nat) (z : Array Value) (hR : R < C) (p : Option Addr) (c : Nat) (w1 : World) (hC : C ≤ w1.heap.size) (hk : Kids w1 (ownH w1 C) (.slice p t.args.length c) t.args) (hz : w1.heap[R]? = some (.cells z 26)) (hsp : Sp w1 (.slice p t.args.length c) t.args C w1.heap.size) (w2 : World)
    (hb : Below (w1.alloc (.cells #[.int .i64 t.kind, .string t.name, .int .u32 t.num, .int .i64 t.int_, .string t.key, .slice p t.args.length c, .int .i64 t.at_] 26)).heap.size (w1.alloc (.cells #[.int .i64 t.kind, .string t.name, .int .u32 t.num, .int .i64 t.int_, .string t.key, .slice p t.args.length c, .int .i64 t.at_] 26)) w2) :
    Calls Try.prog 22 #[.pointer (some ⟨w1.heap.size, 0, none⟩), .agg #[.int .i64 1, .pointer none], .func (.func 24) #[] #[]] w2 fun e w3 => e = .returned (.bool true) ∧ ∃ p c,
      (w3.cell? ⟨w1.heap.size, 0, none⟩ = some (.int .i64 t.kind) ∧ w3.cell? ⟨w1.heap.size, 1, none⟩ = some (.string t.name) ∧ w3.cell? ⟨w1.heap.size, 2, none⟩ = some (.int .u32 t.num) ∧ w3.cell? ⟨w1.heap.size, 3, none⟩ = some (.int .i64 t.int_) ∧ w3.cell? ⟨w1.heap.size, 4, none⟩ = some (.string t.key) ∧ w3.cell? ⟨w1.heap.size, 5, none⟩ = some (.slice p t.args.length c) ∧ w3.cell? ⟨w1.heap.size, 6, none⟩ = some (.int .i64 0))
      ∧ Kids w3 (ownH w3 C) (.slice p t.args.length c) (stripL t.args) ∧ w3.heap[R]? = some (.cells z 26) ∧ Below C w1 w3 ∧ Sp w3 (.slice p t.args.length c) t.args C w1.heap.size := by
  have hx := box_heap w1 (.cells #[.int .i64 t.kind, .string t.name, .int .u32 t.num, .int .i64 t.int_, .string t.key, .slice p t.args.length c, .int .i64 t.at_] 26)
  have hx2 : w2.heap[w1.heap.size]? = some (.cells #[.int .i64 t.kind, .string t.name, .int .u32 t.num, .int .i64 t.int_, .string t.key, .slice p t.args.length c, .int .i64 t.at_] 26) := by rw [hb.block _ (hlt hx)]; exact hx
  have hb0 := bel (bel_alloc w1 (.cells #[.int .i64 t.kind, .string t.name, .int .u32 t.num, .int .i64 t.int_, .string t.key, .slice p t.args.length c, .int .i64 t.at_] 26)) hb
  have hk2 := hk.ownBelow hb0
  have hs : Sh w2 C w1.heap.size 0 t := ⟨rfl, hC, ⟨_, hx2⟩, t, ⟨cell_heap hx2 0, cell_heap hx2 1, cell_heap hx2 2, cell_heap hx2 3, cell_heap hx2 4, cell_heap hx2 6, _, cell_heap hx2 5, hk2⟩, rfl⟩
  refine (top_strip t hc C w1.heap.size w2 hs).mono fun e w3 ⟨he, hr, hzd⟩ => ?_
  obtain ⟨-, -, ⟨e0, e1, e2, e3, e4, e6, sv', e5, hk3⟩⟩ := hzd
  have hk4 := hk3
  obtain ⟨p', c', rfl, -⟩ := hk3
  have hl : (strip t).args.length = t.args.length := stripL_len t.args
  rw [hl] at hk4 e5
  have hB : Below C w1 w3 := (hb0.mono hC).trans (hr.1 (Nat.le_trans hC hb0.size))
  simp only [Nat.zero_add] at e0 e1 e2 e3 e4 e5 e6
  have hsp2 := Sp_rs hr (Sp_keep hsp fun k k1 k2 => hb0.block k k2)
  have h5 := hr.keep hx2 (i := 5) (by decide) (cell_heap hx2 5)
  have hpc : Value.slice p' t.args.length c' = .slice p t.args.length c := by
    have := e5.symm.trans h5
    simpa using this
  rw [← hpc] at hsp2
  exact ⟨he, p', c', ⟨e0, e1, e2, e3, e4, e5, e6⟩, hk4, by rw [hB.block R hR]; exact hz, hB, hsp2⟩

set_option maxRecDepth 100000 in
set_option maxHeartbeats 2000000 in
theorem strip_sep (t : Nd) (sv : Value) (w : World) (hc : cnt t ≤ 9000) (hok : ok1 t) (hk : Kids w anyH sv t.args) :
    Calls Try.prog 7 #[nv t sv] w fun e w' => ∃ p c, e = .returned (nv (strip t) (.slice p t.args.length c)) ∧ Kids w' (ownH w' w.heap.size) (.slice p t.args.length c) (stripL t.args) ∧ Below w.heap.size w w' ∧ Sp w' (.slice p t.args.length c) t.args w.heap.size w'.heap.size := by
  have hn := box_node w t sv hk
  have hb1 := bel_alloc w (.cells #[.int .i64 t.kind, .string t.name, .int .u32 t.num, .int .i64 t.int_, .string t.key, sv, .int .i64 t.at_] 26)
  have HC : Hid (Calls Try.prog 21 #[.pointer (some ⟨w.heap.size, 0, none⟩)] ((w.alloc (.cells #[.int .i64 t.kind, .string t.name, .int .u32 t.num, .int .i64 t.int_, .string t.key, sv, .int .i64 t.at_] 26)).alloc (.cells #[.int .i64 0, .string ⟨#[]⟩, .int .u32 0, .int .i64 0, .string ⟨#[]⟩, .slice none 0 0, .int .i64 0] 26)) fun e v' => ∃ p c, e = .returned (.agg #[.int .i64 t.kind, .string t.name, .int .u32 t.num, .int .i64 t.int_, .string t.key, .slice p t.args.length c, .int .i64 t.at_]) ∧ Kids v' (ownH v' (w.heap.size + 2)) (.slice p t.args.length c) t.args ∧ v'.heap[w.heap.size + 1]? = some (.cells #[.int .i64 0, .string ⟨#[]⟩, .int .u32 0, .int .i64 0, .string ⟨#[]⟩, .slice none 0 0, .int .i64 0] 26) ∧ Below w.heap.size w v' ∧ w.heap.size + 2 ≤ v'.heap.size ∧ Sp v' (.slice p t.args.length c) t.args (w.heap.size + 2) v'.heap.size) := by
    have hn2 := hn.below (bel_alloc _ (.cells #[.int .i64 0, .string ⟨#[]⟩, .int .u32 0, .int .i64 0, .string ⟨#[]⟩, .slice none 0 0, .int .i64 0] 26))
    have hsz : ((w.alloc (.cells #[.int .i64 t.kind, .string t.name, .int .u32 t.num, .int .i64 t.int_, .string t.key, sv, .int .i64 t.at_] 26)).alloc (.cells #[.int .i64 0, .string ⟨#[]⟩, .int .u32 0, .int .i64 0, .string ⟨#[]⟩, .slice none 0 0, .int .i64 0] 26)).heap.size = w.heap.size + 2 := by simp
    have hb2 := bel hb1 (bel_alloc (w.alloc (.cells #[.int .i64 t.kind, .string t.name, .int .u32 t.num, .int .i64 t.int_, .string t.key, sv, .int .i64 t.at_] 26)) (.cells #[.int .i64 0, .string ⟨#[]⟩, .int .u32 0, .int .i64 0, .string ⟨#[]⟩, .slice none 0 0, .int .i64 0] 26))
    have hz := two_heap w (.cells #[.int .i64 t.kind, .string t.name, .int .u32 t.num, .int .i64 t.int_, .string t.key, sv, .int .i64 t.at_] 26) (.cells #[.int .i64 0, .string ⟨#[]⟩, .int .u32 0, .int .i64 0, .string ⟨#[]⟩, .slice none 0 0, .int .i64 0] 26)
    obtain ⟨V, hV⟩ : ∃ V, (w.alloc (.cells #[.int .i64 t.kind, .string t.name, .int .u32 t.num, .int .i64 t.int_, .string t.key, sv, .int .i64 t.at_] 26)).alloc (.cells #[.int .i64 0, .string ⟨#[]⟩, .int .u32 0, .int .i64 0, .string ⟨#[]⟩, .slice none 0 0, .int .i64 0] 26) = V := ⟨_, rfl⟩
    rw [hV] at hn2 hsz hb2 hz ⊢
    refine (copied_sep (dep t) t w.heap.size 0 V (Nat.le_refl _) hc hok hn2).mono fun e v' ⟨s, he, hk, hb, hsp⟩ => ?_
    obtain ⟨p, c, rfl, hq⟩ := id hk
    rw [hsz] at hk hsp
    exact ⟨p, c, he, hk, by rw [hb.block _ (hlt hz)]; exact hz, bel hb2 hb, by have := hb.size; omega, hsp⟩
  have HO := @strip_outS t hc (w.heap.size + 2) (w.heap.size + 1) #[.int .i64 0, .string ⟨#[]⟩, .int .u32 0, .int .i64 0, .string ⟨#[]⟩, .slice none 0 0, .int .i64 0] (by omega)
  have HOH : Hid (∀ (p : Option Addr) (c : Nat) (w1 : World), w.heap.size + 2 ≤ w1.heap.size → Kids w1 (ownH w1 (w.heap.size + 2)) (.slice p t.args.length c) t.args → w1.heap[w.heap.size + 1]? = some (.cells #[.int .i64 0, .string ⟨#[]⟩, .int .u32 0, .int .i64 0, .string ⟨#[]⟩, .slice none 0 0, .int .i64 0] 26) → Sp w1 (.slice p t.args.length c) t.args (w.heap.size + 2) w1.heap.size → ∀ (w2 : World),
    Below (w1.alloc (.cells #[.int .i64 t.kind, .string t.name, .int .u32 t.num, .int .i64 t.int_, .string t.key, .slice p t.args.length c, .int .i64 t.at_] 26)).heap.size (w1.alloc (.cells #[.int .i64 t.kind, .string t.name, .int .u32 t.num, .int .i64 t.int_, .string t.key, .slice p t.args.length c, .int .i64 t.at_] 26)) w2 →
    Calls Try.prog 22 #[.pointer (some ⟨w1.heap.size, 0, none⟩), .agg #[.int .i64 1, .pointer none], .func (.func 24) #[] #[]] w2 fun e w3 => e = .returned (.bool true) ∧ ∃ p c,
      (w3.cell? ⟨w1.heap.size, 0, none⟩ = some (.int .i64 t.kind) ∧ w3.cell? ⟨w1.heap.size, 1, none⟩ = some (.string t.name) ∧ w3.cell? ⟨w1.heap.size, 2, none⟩ = some (.int .u32 t.num) ∧ w3.cell? ⟨w1.heap.size, 3, none⟩ = some (.int .i64 t.int_) ∧ w3.cell? ⟨w1.heap.size, 4, none⟩ = some (.string t.key) ∧ w3.cell? ⟨w1.heap.size, 5, none⟩ = some (.slice p t.args.length c) ∧ w3.cell? ⟨w1.heap.size, 6, none⟩ = some (.int .i64 0))
      ∧ Kids w3 (ownH w3 (w.heap.size + 2)) (.slice p t.args.length c) (stripL t.args) ∧ w3.heap[w.heap.size + 1]? = some (.cells #[.int .i64 0, .string ⟨#[]⟩, .int .u32 0, .int .i64 0, .string ⟨#[]⟩, .slice none 0 0, .int .i64 0] 26) ∧ Below (w.heap.size + 2) w1 w3 ∧ Sp w3 (.slice p t.args.length c) t.args (w.heap.size + 2) w1.heap.size) := HO
  clear hn hb1 hk HO
  unfold nv strip
  go_enter Try.func7, Try.ntmps7
  go_wp2_with (first
    | (go_at_call 21; (with_reducible refine HC.out.mono ?_); rintro e w1 ⟨p, c, rfl, hk1, hz1, hb1, hs1, hsp1⟩; have HSP1 : Hid (Sp w1 (.slice p t.args.length c) t.args (w.heap.size + 2) w1.heap.size) := hsp1; clear hsp1; have HK1 : Hid (Kids w1 (ownH w1 (w.heap.size + 2)) (.slice p t.args.length c) t.args) := hk1; clear hk1)
    | (go_at_call 23; refine (top_any _).mono ?_; rintro e w2 ⟨rfl, hb2⟩)
    | (go_at_call 22; (with_reducible refine (HOH.out p c w1 hs1 HK1.out hz1 HSP1.out _ hb2).mono ?_); rintro e w3 ⟨rfl, p3, c3, ⟨x0, x1, x2, x3, x4, x5, x6⟩, hk3, hz3, hb3, hsp3⟩; have HSP3 : Hid (Sp w3 (.slice p3 t.args.length c3) t.args (w.heap.size + 2) w1.heap.size) := hsp3; clear hsp3; have HK3 : Hid (Kids w3 (ownH w3 (w.heap.size + 2)) (.slice p3 t.args.length c3) (stripL t.args)) := hk3; obtain ⟨⟨r0, r1, r2, r3, r4, r5, r6⟩, q0, q1, q2, q3, q4, q5, q6⟩ := seven hz3; clear hk3))
  refine bodyPost_ret (by simp [results, Try.results7, go_sem, *]; try rfl) rfl ?_
  have hoff := ((((((((Off.refl (w.heap.size + 1) w3).set 0 (.int .i64 t.kind)).set 1 (.string t.name)).set 2 (.int .u32 t.num)).set 3 (.int .i64 t.int_)).set 4 (.string t.key)).set 5 (.slice p3 t.args.length c3)).set 6 (.int .i64 0))
  exact ⟨p3, c3, rfl, (hoff.kids (by omega) HK3.out).weak (ownH.mono (by omega)), hoff.below (hb1.trans (hb3.mono (by omega))) (by omega), by rw [hoff.2.2.2.1]; exact Sp_mono (Sp_keep HSP3.out fun k k1 k2 => hoff.2.2.2.2 k (by omega)) (by omega) hb3.size⟩

end Go.Proofs.Ytpidjmgifglmiab
