import Derived.Test.YtpidjmgifglmiaaTreeFind
import Derived.Test.YtpidjmgifglmiaaTreeRef
/- The reference's Find. -/
namespace Go.Proofs.Ytpidjmgifglmiaa
open Go.RowKit
set_option linter.unusedVariables false
set_option linter.unusedSimpArgs false

theorem Off.heap {R : Nat} {v v' : World} (h : Off R v v') {b : Nat} (hb : b ≠ R) : v'.heap[b]? = v.heap[b]? := h.2.2.2.2 b hb
theorem put_all {v : World} {G : Nat} {a0 a1 a2 a3 a4 a5 a6 : Value} {t : TypeId} (h : v.heap[G]? = some (.cells #[a0, a1, a2, a3, a4, a5, a6] t)) (b0 b1 b2 b3 b4 b5 b6 : Value) :
    (((((((v.setCell ⟨G, 0, none⟩ b0).setCell ⟨G, 1, none⟩ b1).setCell ⟨G, 2, none⟩ b2).setCell ⟨G, 3, none⟩ b3).setCell ⟨G, 4, none⟩ b4).setCell ⟨G, 5, none⟩ b5).setCell ⟨G, 6, none⟩ b6).heap[G]? = some (.cells #[b0, b1, b2, b3, b4, b5, b6] t) := by
  have h0 : (v.setCell ⟨G, 0, none⟩ b0).heap[G]? = some (.cells #[b0, a1, a2, a3, a4, a5, a6] t) := heap_setAt h 0 b0
  have h1 : ((v.setCell ⟨G, 0, none⟩ b0).setCell ⟨G, 1, none⟩ b1).heap[G]? = some (.cells #[b0, b1, a2, a3, a4, a5, a6] t) := heap_setAt h0 1 b1
  have h2 : (((v.setCell ⟨G, 0, none⟩ b0).setCell ⟨G, 1, none⟩ b1).setCell ⟨G, 2, none⟩ b2).heap[G]? = some (.cells #[b0, b1, b2, a3, a4, a5, a6] t) := heap_setAt h1 2 b2
  have h3 : ((((v.setCell ⟨G, 0, none⟩ b0).setCell ⟨G, 1, none⟩ b1).setCell ⟨G, 2, none⟩ b2).setCell ⟨G, 3, none⟩ b3).heap[G]? = some (.cells #[b0, b1, b2, b3, a4, a5, a6] t) := heap_setAt h2 3 b3
  have h4 : (((((v.setCell ⟨G, 0, none⟩ b0).setCell ⟨G, 1, none⟩ b1).setCell ⟨G, 2, none⟩ b2).setCell ⟨G, 3, none⟩ b3).setCell ⟨G, 4, none⟩ b4).heap[G]? = some (.cells #[b0, b1, b2, b3, b4, a5, a6] t) := heap_setAt h3 4 b4
  have h5 : ((((((v.setCell ⟨G, 0, none⟩ b0).setCell ⟨G, 1, none⟩ b1).setCell ⟨G, 2, none⟩ b2).setCell ⟨G, 3, none⟩ b3).setCell ⟨G, 4, none⟩ b4).setCell ⟨G, 5, none⟩ b5).heap[G]? = some (.cells #[b0, b1, b2, b3, b4, b5, a6] t) := heap_setAt h4 5 b5
  have h6 : (((((((v.setCell ⟨G, 0, none⟩ b0).setCell ⟨G, 1, none⟩ b1).setCell ⟨G, 2, none⟩ b2).setCell ⟨G, 3, none⟩ b3).setCell ⟨G, 4, none⟩ b4).setCell ⟨G, 5, none⟩ b5).setCell ⟨G, 6, none⟩ b6).heap[G]? = some (.cells #[b0, b1, b2, b3, b4, b5, b6] t) := heap_setAt h5 6 b6
  exact h6

set_option maxRecDepth 100000 in
set_option maxHeartbeats 4000000 in
theorem rfind_any (t : Nd) (p0 : Option Addr) (c0 : Nat) (pv : Value) (xs : List Int) (w : World) (hxs : xs.length ≤ 35184372088832) (hc : cnt t ≤ 9000) (hk : Kids w anyH (.slice p0 t.args.length c0) t.args) (hp : Path w pv xs) :
    Calls Try.prog 27 #[nv t (.slice p0 t.args.length c0), pv] w fun e w' => ∃ p n c, e = .returned (.tuple #[nv ((findP xs t).getD zeroNd) (.slice p n c), .bool (findP xs t).isSome]) ∧ Kids w' anyH (.slice p n c) ((findP xs t).getD zeroNd).args ∧ Below w.heap.size w w' := by
  have HN : Hid (Below w.heap.size w ((w.alloc (.cells #[.int .i64 t.kind, .string t.name, .int .u32 t.num, .int .i64 t.int_, .string t.key, .slice p0 t.args.length c0, .int .i64 t.at_] 26)).alloc (.cells #[.int .i64 0, .string ⟨#[]⟩, .int .u32 0, .int .i64 0, .string ⟨#[]⟩, .slice none 0 0, .int .i64 0] 26))
    ∧ ((w.alloc (.cells #[.int .i64 t.kind, .string t.name, .int .u32 t.num, .int .i64 t.int_, .string t.key, .slice p0 t.args.length c0, .int .i64 t.at_] 26)).alloc (.cells #[.int .i64 0, .string ⟨#[]⟩, .int .u32 0, .int .i64 0, .string ⟨#[]⟩, .slice none 0 0, .int .i64 0] 26)).heap[w.heap.size]? = some (.cells #[.int .i64 t.kind, .string t.name, .int .u32 t.num, .int .i64 t.int_, .string t.key, .slice p0 t.args.length c0, .int .i64 t.at_] 26)
    ∧ ((w.alloc (.cells #[.int .i64 t.kind, .string t.name, .int .u32 t.num, .int .i64 t.int_, .string t.key, .slice p0 t.args.length c0, .int .i64 t.at_] 26)).alloc (.cells #[.int .i64 0, .string ⟨#[]⟩, .int .u32 0, .int .i64 0, .string ⟨#[]⟩, .slice none 0 0, .int .i64 0] 26)).heap[w.heap.size + 1]? = some (.cells #[.int .i64 0, .string ⟨#[]⟩, .int .u32 0, .int .i64 0, .string ⟨#[]⟩, .slice none 0 0, .int .i64 0] 26)) := ⟨bel (bel_alloc _ _) (bel_alloc _ _), heap_old _ _ (box_heap _ _), two_heap _ _ _⟩
  obtain ⟨pp, pc, rfl, hpp⟩ := hp
  obtain ⟨n, hnn⟩ : ∃ n, xs.length = n := ⟨_, rfl⟩
  have HL : Hid (xs.length = n) := hnn
  have HP : Hid (xs = [] ∨ ∃ b o, pp = some ⟨b, o, none⟩ ∧ ∀ i (h : i < xs.length), w.cell? ⟨b, o + i, none⟩ = some (.int .i64 xs[i])) := hpp
  rw [hnn] at hxs ⊢
  have HK : Hid (Kids w anyH (.slice p0 t.args.length c0) t.args ∧ cnt t ≤ 9000) := ⟨hk, hc⟩
  clear hpp hnn hk hc
  unfold nv
  go_enter Try.func27, Try.ntmps27
  go_wp2
  go_loopw [6] (fun iv wr => Below w.heap.size w wr ∧ wr.heap[w.heap.size + 1]? = some (.cells #[.int .i64 0, .string ⟨#[]⟩, .int .u32 0, .int .i64 0, .string ⟨#[]⟩, .slice none 0 0, .int .i64 0] 26) ∧ ∃ (j : Nat) (u : Nd) (q : Option Addr) (d : Nat), j ≤ n ∧ iv = .int .i64 j ∧ wr.heap[w.heap.size]? = some (.cells #[.int .i64 u.kind, .string u.name, .int .u32 u.num, .int .i64 u.int_, .string u.key, .slice q u.args.length d, .int .i64 u.at_] 26) ∧ Hid (Kids w anyH (.slice q u.args.length d) u.args ∧ cnt u ≤ 9000 ∧ findP xs t = findP (xs.drop j) u)) (fun iv _ => n - (intOf iv).toNat)
  case atStart => exact ⟨HN.out.1, HN.out.2.2, 0, t, p0, c0, Nat.zero_le _, rfl, HN.out.2.1, HK.out.1, HK.out.2, by rw [List.drop_zero]⟩
  case round =>
    obtain ⟨hb, hz, j, u, q, d, hj, rfl, hx, hS⟩ := hrel
    obtain ⟨⟨r0, r1, r2, r3, r4, r5, r6⟩, q0, q1, q2, q3, q4, q5, q6⟩ := seven hz
    obtain ⟨⟨a0, a1, a2, a3, a4, a5, a6⟩, f0, f1, f2, f3, f4, f5, f6⟩ := seven hx
    have HZ : Hid (wr.heap[w.heap.size + 1]? = some (.cells #[.int .i64 0, .string ⟨#[]⟩, .int .u32 0, .int .i64 0, .string ⟨#[]⟩, .slice none 0 0, .int .i64 0] 26)) := hz
    have HX : Hid (wr.heap[w.heap.size]? = some (.cells #[.int .i64 u.kind, .string u.name, .int .u32 u.num, .int .i64 u.int_, .string u.key, .slice q u.args.length d, .int .i64 u.at_] 26)) := hx
    have hsz := hlt hz
    clear hz hx HN
    by_cases hlt0 : j < n
    · have hll : j < xs.length := by rw [HL.out]; exact hlt0
      obtain ⟨b', o', rfl, hxc⟩ : ∃ b o, pp = some ⟨b, o, none⟩ ∧ ∀ i (h : i < xs.length), w.cell? ⟨b, o + i, none⟩ = some (.int .i64 xs[i]) := by
        rcases HP.out with hk | hk
        · rw [hk] at hll; exact absurd hll (Nat.not_lt_zero _)
        · exact hk
      have hbl : b' < w.heap.size := mcell_lt (hxc j hll)
      have hx1 := (hb.cell (mcell_lt (hxc j hll))).trans (hxc j hll)
      obtain ⟨hk, hc, hf⟩ := hS.out
      have hd : xs.drop j = xs[j] :: xs.drop (j + 1) := List.drop_eq_getElem_cons hll
      rw [hd] at hf
      obtain ⟨xi, hxi⟩ : ∃ xi, xs[j] = xi := ⟨_, rfl⟩
      rw [hxi] at hx1 hf
      have hul : u.args.length ≤ 9000 := by have := cntL_len u.args; unfold cnt at hc; omega
      have i1 : (0 : Int) ≤ (j : Int) := by omega
      have i2 : (j : Int) < (n : Int) := by omega
      by_cases x0 : xi < 0
      · have HF : Hid (findP xs t = none) := by rw [hf, findP_low x0]; exact rfl
        clear hxc hf hd hxi hS hk HP
        go_wp2
        go_quiet (fail)
        go_wp2
        refine bodyPost_ret (by simp [results, Try.results27, go_sem, *]; try rfl) rfl ?_
        rw [HF.out]
        refine ⟨none, 0, 0, rfl, ⟨none, 0, rfl, trivial, .inl rfl⟩, Off.below (R := w.heap.size + 1) (v := wr.drewN nq) ?_ (bel hb (bel_dn _ _)) (by omega)⟩
        exact ((((((((Off.refl (w.heap.size + 1) (wr.drewN nq)).set 0 (.int .i64 0)).set 1 (.string ⟨#[]⟩)).set 2 (.int .u32 0)).set 3 (.int .i64 0)).set 4 (.string ⟨#[]⟩)).set 5 (.slice none 0 0)).set 6 (.int .i64 0))
      · by_cases x1 : (u.args.length : Int) ≤ xi
        · have HF : Hid (findP xs t = none) := by rw [hf, findP_high x1]; exact rfl
          clear hxc hf hd hxi hS hk HP
          go_wp2
          go_quiet (fail)
          go_wp2
          refine bodyPost_ret (by simp [results, Try.results27, go_sem, *]; try rfl) rfl ?_
          rw [HF.out]
          refine ⟨none, 0, 0, rfl, ⟨none, 0, rfl, trivial, .inl rfl⟩, Off.below (R := w.heap.size + 1) (v := wr.drewN nq) ?_ (bel hb (bel_dn _ _)) (by omega)⟩
          exact ((((((((Off.refl (w.heap.size + 1) (wr.drewN nq)).set 0 (.int .i64 0)).set 1 (.string ⟨#[]⟩)).set 2 (.int .u32 0)).set 3 (.int .i64 0)).set 4 (.string ⟨#[]⟩)).set 5 (.slice none 0 0)).set 6 (.int .i64 0))
        · obtain ⟨m, rfl⟩ : ∃ m : Nat, xi = (m : Int) := ⟨xi.toNat, by omega⟩
          have hm : m < u.args.length := by omega
          rw [findP_in (by omega) (by simpa using hm)] at hf
          obtain ⟨b1, o1, q1, d1, rfl, ⟨y0, y1, y2, y3, y4, y5, y6⟩, kx⟩ := kid_at hk (bel0 w) hm
          have hb1l : b1 < w.heap.size := mcell_lt y0
          have HNX : Hid (Kids w anyH (.slice q1 u.args[m].args.length d1) u.args[m].args ∧ cnt u.args[m] ≤ 9000 ∧ findP xs t = findP (xs.drop (j + 1)) u.args[m]) := ⟨kx, by have h1 := cnt_get hm; unfold cnt at hc; omega, hf⟩
          have e0 := (hb.cell (mcell_lt y0)).trans y0
          have e1 := (hb.cell (mcell_lt y1)).trans y1
          have e2 := (hb.cell (mcell_lt y2)).trans y2
          have e3 := (hb.cell (mcell_lt y3)).trans y3
          have e4 := (hb.cell (mcell_lt y4)).trans y4
          have e5 := (hb.cell (mcell_lt y5)).trans y5
          have e6 := (hb.cell (mcell_lt y6)).trans y6
          have x2 : (m : Int) < (u.args.length : Int) := by omega
          have x3 : ¬ ((u.args.length : Int) ≤ (m : Int)) := x1
          clear hxc hf hd hxi hS hk HP kx y0 y1 y2 y3 y4 y5 y6
          go_wp2
          go_quiet (fail)
          go_wp2
          go_region
          all_goals (
            go_wp2
            go_roundw
            case rel =>
              have hbd := bel hb (bel (bel_dn wr nq) (bel_d (wr.drewN nq)))
              refine ⟨Off.below (R := w.heap.size) (v := (wr.drewN nq).drew) ?_ hbd (Nat.le_refl _), ?_, j + 1, u.args[m], q1, d1, by omega, by go_num, ?_, HNX.out⟩
              · exact ((((((((Off.refl w.heap.size ((wr.drewN nq).drew)).set 0 _).set 1 _).set 2 _).set 3 _).set 4 _).set 5 _).set 6 _)
              · refine Eq.trans (Off.heap (R := w.heap.size) (v := (wr.drewN nq).drew) ?_ (by omega)) HZ.out
                exact ((((((((Off.refl w.heap.size ((wr.drewN nq).drew)).set 0 _).set 1 _).set 2 _).set 3 _).set 4 _).set 5 _).set 6 _)
              · exact put_all (v := (wr.drewN nq).drew) HX.out _ _ _ _ _ _ _
            case measure => simp [intOf]; omega)
    · have : j = n := by omega
      subst this
      obtain ⟨hk, hc, hf⟩ := hS.out
      rw [List.drop_of_length_le (by rw [HL.out]; exact Nat.le_refl _), findP] at hf
      have HF : Hid (findP xs t = some u) := hf
      have HKU : Hid (Kids w anyH (.slice q u.args.length d) u.args) := hk
      clear hf hk hS HP
      go_wp2
      refine bodyPost_ret (by simp [results, Try.results27, go_sem, *]; try rfl) rfl ?_
      rw [HF.out]
      have hoff := ((((((((Off.refl (w.heap.size + 1) wr).set 0 (.int .i64 u.kind)).set 1 (.string u.name)).set 2 (.int .u32 u.num)).set 3 (.int .i64 u.int_)).set 4 (.string u.key)).set 5 (.slice q u.args.length d)).set 6 (.int .i64 u.at_))
      have hbf := hoff.below hb (by omega)
      exact ⟨q, _, d, rfl, HKU.out.below hbf, hbf⟩

end Go.Proofs.Ytpidjmgifglmiaa
