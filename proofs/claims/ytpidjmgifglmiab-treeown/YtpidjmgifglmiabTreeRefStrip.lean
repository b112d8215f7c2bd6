import Derived.Test.YtpidjmgifglmiabTreeRow
/- The reference's Strip. -/
namespace Go.Proofs.Ytpidjmgifglmiab
open Go.RowKit
set_option linter.unusedVariables false
set_option linter.unusedSimpArgs false

def RStripTo (N : Nat) : Prop := ∀ (t : Nd) (p : Option Addr) (c : Nat) (w : World), dep t ≤ N → cnt t ≤ 9000 → Kids w anyH (.slice p t.args.length c) t.args →
  Calls Try.prog 11 #[nv t (.slice p t.args.length c)] w fun e w' => ∃ p' n' c', e = .returned (nv (strip t) (.slice p' n' c')) ∧ Kids w' (kidH w.heap.size w'.heap.size none) (.slice p' n' c') (stripL t.args) ∧ Below w.heap.size w w'
set_option maxRecDepth 100000 in
set_option maxHeartbeats 4000000 in
theorem rstrip_to : ∀ N, RStripTo N := by
  intro N
  induction N with
  | zero => intro t p c w hd; unfold dep at hd; omega
  | succ N ih =>
    intro t p c w hd hc hk
    have hlen : t.args.length ≤ 9000 := by have := cntL_len t.args; unfold cnt at hc; omega
    obtain ⟨n, hn⟩ : ∃ n, t.args.length = n := ⟨_, rfl⟩
    have HN : Hid (t.args.length = n) := hn
    have HK : Hid (Kids w anyH (.slice p t.args.length c) t.args) := hk
    have HIH : Hid (RStripTo N) := ih
    obtain ⟨i0, hi0, hz0, hz1, hz2⟩ := info_parts info_Node
    unfold nv strip
    rw [hn] at hlen ⊢
    have HBX : Hid (Below w.heap.size w ((w.alloc (.cells #[.int .i64 t.kind, .string t.name, .int .u32 t.num, .int .i64 t.int_, .string t.key, .slice p n c, .int .i64 t.at_] 26)).alloc (.cells #[.int .i64 0, .string ⟨#[]⟩, .int .u32 0, .int .i64 0, .string ⟨#[]⟩, .slice none 0 0, .int .i64 0] 26)) ∧ ((w.alloc (.cells #[.int .i64 t.kind, .string t.name, .int .u32 t.num, .int .i64 t.int_, .string t.key, .slice p n c, .int .i64 t.at_] 26)).alloc (.cells #[.int .i64 0, .string ⟨#[]⟩, .int .u32 0, .int .i64 0, .string ⟨#[]⟩, .slice none 0 0, .int .i64 0] 26)).heap[w.heap.size]? = some (.cells #[.int .i64 t.kind, .string t.name, .int .u32 t.num, .int .i64 t.int_, .string t.key, .slice p n c, .int .i64 t.at_] 26) ∧ ((w.alloc (.cells #[.int .i64 t.kind, .string t.name, .int .u32 t.num, .int .i64 t.int_, .string t.key, .slice p n c, .int .i64 t.at_] 26)).alloc (.cells #[.int .i64 0, .string ⟨#[]⟩, .int .u32 0, .int .i64 0, .string ⟨#[]⟩, .slice none 0 0, .int .i64 0] 26)).heap[w.heap.size + 1]? = some (.cells #[.int .i64 0, .string ⟨#[]⟩, .int .u32 0, .int .i64 0, .string ⟨#[]⟩, .slice none 0 0, .int .i64 0] 26) ∧ w.heap.size + 2 ≤ ((w.alloc (.cells #[.int .i64 t.kind, .string t.name, .int .u32 t.num, .int .i64 t.int_, .string t.key, .slice p n c, .int .i64 t.at_] 26)).alloc (.cells #[.int .i64 0, .string ⟨#[]⟩, .int .u32 0, .int .i64 0, .string ⟨#[]⟩, .slice none 0 0, .int .i64 0] 26)).heap.size) := ⟨bel (bel_alloc _ _) (bel_alloc _ _), heap_old _ _ (box_heap _ _), two_heap _ _ _, by simp⟩
    clear hn hk ih
    go_enter Try.func11, Try.ntmps11
    go_wp2
    go_loopw [3, 4] (fun lv iv wr => Below w.heap.size w wr ∧ ∃ (j : Nat) (ov : Value), ov = lv ∧ j ≤ n ∧ iv = .int .i64 j ∧ w.heap.size + 2 ≤ wr.heap.size ∧ wr.heap[w.heap.size]? = some (.cells #[.int .i64 t.kind, .string t.name, .int .u32 t.num, .int .i64 t.int_, .string t.key, .slice p n c, .int .i64 t.at_] 26) ∧ wr.heap[w.heap.size + 1]? = some (.cells #[.int .i64 0, .string ⟨#[]⟩, .int .u32 0, .int .i64 0, .string ⟨#[]⟩, .slice none 0 0, .int .i64 0] 26) ∧ Hid (∃ R, RowN wr (w.heap.size + 2) ov (stripL (t.args.take j)) R)) (fun _ iv _ => n - (intOf iv).toNat)
    case atStart => exact ⟨HBX.out.1, 0, _, rfl, Nat.zero_le _, rfl, HBX.out.2.2.2, HBX.out.2.1, HBX.out.2.2.1, [], by rw [List.take_zero, stripL_nil]; exact RowN.nil _ _⟩
    case round =>
      obtain ⟨hb, j, ov, rfl, hj, rfl, hsz, hx, hz, R, hR⟩ := hrel
      have h5 := cell5 hx
      have HX : Hid (wr.heap[w.heap.size]? = some (.cells #[.int .i64 t.kind, .string t.name, .int .u32 t.num, .int .i64 t.int_, .string t.key, .slice p n c, .int .i64 t.at_] 26)) := hx
      have HZ : Hid (wr.heap[w.heap.size + 1]? = some (.cells #[.int .i64 0, .string ⟨#[]⟩, .int .u32 0, .int .i64 0, .string ⟨#[]⟩, .slice none 0 0, .int .i64 0] 26)) := hz
      by_cases hlt0 : j < n
      · have hll : j < t.args.length := by rw [HN.out]; exact hlt0
        obtain ⟨b1, o1, q1, d1, rfl, ⟨x0, x1, x2, x3, x4, x5, x6⟩, kx⟩ := kid_at HK.out hb hll
        have hjl : (stripL (t.args.take j)).length = j := by rw [stripL_len, List.length_take]; omega
        have HW : Hid (Calls Try.prog 11 #[.agg #[.int .i64 t.args[j].kind, .string t.args[j].name, .int .u32 t.args[j].num, .int .i64 t.args[j].int_, .string t.args[j].key, .slice q1 t.args[j].args.length d1, .int .i64 t.args[j].at_]] wr fun e v' => ∃ p3 n3 c3, e = .returned (.agg #[.int .i64 t.args[j].kind, .string t.args[j].name, .int .u32 t.args[j].num, .int .i64 t.args[j].int_, .string t.args[j].key, .slice p3 n3 c3, .int .i64 0]) ∧ Kids v' (kidH wr.heap.size v'.heap.size none) (.slice p3 n3 c3) (strip t.args[j]).args ∧ Below wr.heap.size wr v') :=
          (HIH.out t.args[j] q1 d1 wr (by have := dep_get hll; unfold dep at hd ⊢; unfold dep at this; omega) (by have := cnt_get hll; unfold cnt at hc; omega) kx)
        have HR : Hid (RowN wr (w.heap.size + 2) ov (stripL (t.args.take j)) R) := hR
        have i1 : (0 : Int) ≤ (j : Int) := by omega
        have i2 : (j : Int) < (n : Int) := by omega
        clear kx HIH HK hR hx hz HBX
        go_wp2_with (first
          | (go_at_call 11; (with_reducible refine HW.out.mono ?_); rintro e w3 ⟨p3, n3, c3, rfl, hk3, hb3⟩; have HK3 : Hid (Kids w3 (kidH wr.heap.size w3.heap.size none) (.slice p3 n3 c3) (strip t.args[j]).args) := hk3; have HR3 : Hid (RowN w3 (w.heap.size + 2) ov (stripL (t.args.take j)) R) := HR.out.below hb3; have hs3 := hb3.size; clear hk3)
          | (at_builtin; refine wpList_append_lies _ rfl _ _ 24 rfl (w.heap.size + 2) 26 i0 _ 7 88 Try.underlying24 hi0 hz0 hz1 hz2 rfl (by decide) ov j (cellsN R) rfl (World.ownsRow.alloc (by have := HR3.out.2.1; rw [hjl] at this; exact this) _) ⟨w3.heap.size, 0, none⟩ 1 1 [.int .i64 t.args[j].kind, .string t.args[j].name, .int .u32 t.args[j].num, .int .i64 t.args[j].int_, .string t.args[j].key, .slice p3 n3 c3, .int .i64 0] rfl rfl (World.news_of_block (cs := #[.int .i64 t.args[j].kind, .string t.args[j].name, .int .u32 t.args[j].num, .int .i64 t.args[j].int_, .string t.args[j].key, .slice p3 n3 c3, .int .i64 0]) (t := 26) (fr := (0, 0)) (box_heap w3 _)) (by simp [Value.oneCell']) (by decide) (by unfold maxLen; omega) (by omega) (by simp; omega) (w3.heap.size + 1) (by simp) ?_; intro g cap w4 hown4 hgrow hat hlt4; have HO4 : Hid (w4.ownsRow (w.heap.size + 2) 26 7 (.slice (some ⟨g, 0, none⟩) (j + 1) cap) (j + 1) (cellsN R ++ [.int .i64 t.args[j].kind, .string t.args[j].name, .int .u32 t.args[j].num, .int .i64 t.args[j].int_, .string t.args[j].key, .slice p3 n3 c3, .int .i64 0])) := hown4; have HG4 : Hid ((w3.alloc (.cells #[.int .i64 t.args[j].kind, .string t.args[j].name, .int .u32 t.args[j].num, .int .i64 t.args[j].int_, .string t.args[j].key, .slice p3 n3 c3, .int .i64 0] 26)).grownBy w4 ov.ownBlock) := hgrow; have HA4 : Hid (ov.ownBlock = some g ∨ g = w3.heap.size + 1) := hat; clear hown4 hgrow hat))
        have hro : ∀ k, ov.ownBlock = some k → w.heap.size + 2 ≤ k ∧ k < wr.heap.size := fun k hk => HR.out.2.1.lt k hk
        have hb4 : Below w.heap.size w w4 := Below.grown (bel (bel hb hb3) (bel_alloc _ _)) HG4.out (by simp; omega) (fun k hk => by have := (hro k hk).1; omega)
        have hr4 : RowN w4 (w.heap.size + 2) (.slice (some ⟨g, 0, none⟩) (j + 1) cap) (stripL (t.args.take (j + 1))) (R ++ [((strip t.args[j]), .slice p3 n3 c3)]) := by
          have := RowN.push (t := (strip t.args[j])) (s := .slice p3 n3 c3) HR3.out (bel_alloc w3 (.cells #[.int .i64 t.args[j].kind, .string t.args[j].name, .int .u32 t.args[j].num, .int .i64 t.args[j].int_, .string t.args[j].key, .slice p3 n3 c3, .int .i64 0] 26)) (HK3.out.weak fun p n c hq b o hp => ⟨by have := (hq b o hp).1; omega, (hq b o hp).2.1, fun e => by have h1 := (hro b e.symm).2; have h2 := (hq b o hp).1; omega⟩) HG4.out (by simpa using HA4.out) (by rw [hjl]; exact HO4.out)
          rw [hjl] at this
          rw [stripL_take hll]
          exact this
        have kk : ∀ q (x : Obj), q < w.heap.size + 2 → wr.heap[q]? = some x → w4.heap[q]? = some x := fun q x hq hx => by
          have h1 : (w3.alloc (.cells #[.int .i64 t.args[j].kind, .string t.args[j].name, .int .u32 t.args[j].num, .int .i64 t.args[j].int_, .string t.args[j].key, .slice p3 n3 c3, .int .i64 0] 26)).heap[q]? = some x := by rw [(bel hb3 (bel_alloc w3 (.cells #[.int .i64 t.args[j].kind, .string t.args[j].name, .int .u32 t.args[j].num, .int .i64 t.args[j].int_, .string t.args[j].key, .slice p3 n3 c3, .int .i64 0] 26))).block q (hlt hx)]; exact hx
          rw [HG4.out.block q (hlt h1) (fun e => by have := (hro q e.symm).1; omega)]
          exact h1
        have HF : Hid (Below w.heap.size w w4 ∧ w.heap.size + 2 ≤ w4.heap.size ∧ w4.heap[w.heap.size]? = some (.cells #[.int .i64 t.kind, .string t.name, .int .u32 t.num, .int .i64 t.int_, .string t.key, .slice (some ⟨b1, o1, none⟩) n c, .int .i64 t.at_] 26) ∧ w4.heap[w.heap.size + 1]? = some (.cells #[.int .i64 0, .string ⟨#[]⟩, .int .u32 0, .int .i64 0, .string ⟨#[]⟩, .slice none 0 0, .int .i64 0] 26) ∧ ∃ R, RowN w4 (w.heap.size + 2) (.slice (some ⟨g, 0, none⟩) (j + 1) cap) (stripL (t.args.take (j + 1))) R) := ⟨hb4, by have := HG4.out.size; simp at this; omega, kk _ _ (by omega) HX.out, kk _ _ (by omega) HZ.out, _, hr4⟩
        clear hro hb4 hr4 kk
        go_wp2
        go_roundw
        case rel => exact ⟨HF.out.1, j + 1, _, rfl, by omega, by go_num, HF.out.2.1, HF.out.2.2.1, HF.out.2.2.2.1, HF.out.2.2.2.2⟩
        case measure => simp [intOf]; omega
      · have : j = n := by omega
        subst this
        have e : t.args.take j = t.args := List.take_of_length_le (by rw [HN.out]; exact Nat.le_refl _)
        rw [e] at hR
        have hkk := hR.kids
        obtain ⟨pv, cv, hov, -⟩ := id hkk
        rw [hov] at hkk
        subst hov
        have HKK : Hid (Kids wr (kidH (w.heap.size + 2) wr.heap.size none) (.slice pv (stripL t.args).length cv) (stripL t.args)) := hkk
        obtain ⟨⟨r0, r1, r2, r3, r4, r5, r6⟩, q0, q1, q2, q3, q4, q5, q6⟩ := seven hz
        obtain ⟨⟨o0, o1, o2, o3, o4, o5, o6⟩, f0, f1, f2, f3, f4, f5, f6⟩ := seven hx
        clear hkk hR hx hz HIH HK HBX
        go_wp2
        refine bodyPost_ret (by simp [results, Try.results11, go_sem, *]; try rfl) rfl ?_
        have hoff1 := ((Off.refl w.heap.size wr).set 5 (.slice pv (stripL t.args).length cv)).set 6 (.int .i64 0)
        have hoff2 := ((((((((Off.refl (w.heap.size + 1) ((wr.setCell ⟨w.heap.size, 5, none⟩ (.slice pv (stripL t.args).length cv)).setCell ⟨w.heap.size, 6, none⟩ (.int .i64 0))).set 0 (.int .i64 t.kind)).set 1 (.string t.name)).set 2 (.int .u32 t.num)).set 3 (.int .i64 t.int_)).set 4 (.string t.key)).set 5 (.slice pv (stripL t.args).length cv)).set 6 (.int .i64 0))
        refine ⟨_, _, _, rfl, ((HKK.out.off fun b hb => ?_).weak fun p n c hq b o hp => ⟨?_, ?_, by simp⟩), hoff2.below (hoff1.below hb (Nat.le_refl _)) (by omega)⟩
        · rw [hoff2.2.2.2.2 b (by omega)]; exact hoff1.2.2.2.2 b (by omega)
        · have := (hq b o hp).1; omega
        · have h1 := (hq b o hp).2.1; have h2 := hoff1.2.2.2.1; have h3 := hoff2.2.2.2.1; omega

end Go.Proofs.Ytpidjmgifglmiab
