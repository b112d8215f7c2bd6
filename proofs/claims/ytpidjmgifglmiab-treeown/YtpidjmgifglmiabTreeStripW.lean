import Derived.Test.YtpidjmgifglmiabTreeStrip
/- Package tree: Strip, walked. -/
namespace Go.Proofs.Ytpidjmgifglmiab
open Go.RowKit
set_option linter.unusedVariables false
set_option linter.unusedSimpArgs false

set_option maxHeartbeats 400000 in
theorem strip1_any (b o : Nat) (d a : Int) (av : Option Addr) (w : World) (hb : b < w.heap.size) (h6 : w.cell? ⟨b, o + 6, none⟩ = some (.int .i64 a)) (hf : w.frozen? ⟨b, o + 6, none⟩ = false) :
    Calls Try.prog 24 #[.pointer (some ⟨b, o, none⟩), .agg #[.int .i64 d, .pointer av]] w fun e w' => e = .returned (.bool true) ∧ w' = (w.alloc (.cells #[.int .i64 d, .pointer av] 47)).setCell ⟨b, o + 6, none⟩ (.int .i64 0) := by
  have h7 : (w.alloc (.cells #[.int .i64 d, .pointer av] 47)).cell? ⟨b, o + 6, none⟩ = some (.int .i64 a) := ((bel_alloc w _).cell hb).trans h6
  have h8 : (w.alloc (.cells #[.int .i64 d, .pointer av] 47)).frozen? ⟨b, o + 6, none⟩ = false := ((bel_alloc w _).frozen hb).trans hf
  go_enter Try.func24, Try.ntmps24
  go_wp2
  go_ret
  first | exact ⟨rfl, rfl⟩ | (refine ⟨rfl, ?_⟩; simp [go_sem, hb, Nat.ne_of_lt hb])

set_option maxRecDepth 100000 in
set_option maxHeartbeats 2000000 in
theorem walk_strip (C : Nat) : ∀ (N : Nat) (t : Nd) (w : World) (b o : Nat) (d : Int) (av : Option Addr), dep t ≤ N → cnt t ≤ 9000 → 0 ≤ d → d + N ≤ 20000 → Sh w C b o t →
    Calls Try.prog 22 #[.pointer (some ⟨b, o, none⟩), .agg #[.int .i64 d, .pointer av], .func (.func 24) #[] #[]] w fun e w' => e = .returned (.bool true) ∧ RS C w w' ∧ Zd w' C b o t := by
  intro N
  induction N with
  | zero => intro t w b o d av hd; unfold dep at hd; omega
  | succ N ih =>
    intro t w b o d av hd hc d0 d1 hS
    have hB1 := bel_alloc w (.cells #[.int .i64 d, .pointer av] 47)
    have hS1 : Sh (w.alloc (.cells #[.int .i64 d, .pointer av] 47)) C b o t := hS.rs (RS.below hB1)
    have hbx := box_heap w (.cells #[.int .i64 d, .pointer av] 47)
    obtain ⟨ho, hCb, ⟨cs, hcs⟩, -⟩ := id hS1
    obtain ⟨p0, c0, a0, h50, h60, hf0, -, -, -⟩ := hS1.open
    have hbs : b < (w.alloc (.cells #[.int .i64 d, .pointer av] 47)).heap.size := hlt hcs
    have HK : Hid (Calls Try.prog 24 #[.pointer (some ⟨b, o, none⟩), .agg #[.int .i64 d, .pointer av]] (w.alloc (.cells #[.int .i64 d, .pointer av] 47)) fun e w' => e = .returned (.bool true) ∧ RS C w w' ∧ w'.cell? ⟨b, o + 6, none⟩ = some (.int .i64 0) ∧ w'.heap[w.heap.size]? = some (.cells #[.int .i64 d, .pointer av] 47)) :=
      (strip1_any b o d a0 av _ hbs h60 hf0).mono fun e w' ⟨he, hw⟩ => by
        subst hw
        have hB2 := bel_alloc (w.alloc (.cells #[.int .i64 d, .pointer av] 47)) (.cells #[.int .i64 d, .pointer av] 47)
        have hcs2 := heap_old _ (.cells #[.int .i64 d, .pointer av] 47) hcs
        rw [cell_heap hcs] at h60
        have r := RS.set (C := C) hcs2 hCb (o := o + 6) (by omega) h60
        have r1 : RS C w ((((w.alloc (.cells #[.int .i64 d, .pointer av] 47)).alloc (.cells #[.int .i64 d, .pointer av] 47)).setCell ⟨b, o + 6, none⟩ (.int .i64 0))) := ((RS.below hB1).trans (RS.below hB2)).trans r
        refine ⟨he, r1, ?_, ((RS.below hB2).trans r).2.2.1 _ _ _ hbx⟩
        have hz : o + 6 < cs.size := by
          rcases Nat.lt_or_ge (o + 6) cs.size with c | c
          · exact c
          · rw [Array.getElem?_eq_none c] at h60; cases h60
        rw [cell_heap (heap_setAt hcs2 (o + 6) (.int .i64 0)), Array.getElem?_setIfInBounds, if_pos rfl, if_pos hz]
    have hlen : t.args.length ≤ 9000 := by have := cntL_len t.args; unfold cnt at hc; omega
    obtain ⟨n, hn⟩ : ∃ n, t.args.length = n := ⟨_, rfl⟩
    have HN : Hid (t.args.length = n) := hn
    rw [hn] at hlen
    have HLK : Hid (∀ v, RS C w v → ∃ p c, v.cell? ⟨b, o + 5, none⟩ = some (.slice p n c) ∧ (t.args = [] ∨ ∃ b', p = some ⟨b', 0, none⟩ ∧ ∀ i (h : i < t.args.length), Sh v C b' (i * 7) t.args[i])) := fun v hv => by
      obtain ⟨p, c, a, h5, -, -, hk, -, -⟩ := (hS.rs hv).open
      rw [hn] at h5
      exact ⟨p, c, h5, hk⟩
    have HKP : Hid (∀ v v', RS C w v → RS C v v' → ∀ x, v.cell? ⟨b, o + 5, none⟩ = some x → v'.cell? ⟨b, o + 5, none⟩ = some x) := fun v v' hv hv' x hx => by
      obtain ⟨-, -, ⟨es, hes⟩, -⟩ := hS.rs hv
      exact hv'.keep hes (by omega) hx
    have HAT : Hid (∀ v v', RS C w v → RS C v v' → v.cell? ⟨b, o + 6, none⟩ = some (.int .i64 0) → v'.cell? ⟨b, o + 6, none⟩ = some (.int .i64 0)) := fun v v' hv hv' hx => by
      obtain ⟨-, -, ⟨es, hes⟩, -⟩ := hS.rs hv
      obtain ⟨a', h1, h2⟩ := hv'.at hes hx
      rw [h1]
      congr 2
      omega
    have HIH : Hid (∀ j (h : j < t.args.length) (v : World) (b' : Nat), Sh v C b' (j * 7) t.args[j] → Calls Try.prog 22 #[.pointer (some ⟨b', j * 7, none⟩), .agg #[.int .i64 (d + 1), .pointer (some ⟨b, o, none⟩)], .func (.func 24) #[] #[]] v fun e w' => e = .returned (.bool true) ∧ RS C v w' ∧ Zd w' C b' (j * 7) t.args[j]) := fun j h v b' hs =>
      ih t.args[j] v b' (j * 7) (d + 1) _ (by have := dep_get h; unfold dep at hd ⊢; unfold dep at this; omega) (by have := cnt_get h; unfold cnt at hc ⊢; unfold cnt at this; omega) (by omega) (by omega) hs
    have HFIN : Hid (∀ v b', RS C w v → v.cell? ⟨b, o + 6, none⟩ = some (.int .i64 0) → (∀ c, v.cell? ⟨b, o + 5, none⟩ = some (.slice (some ⟨b', 0, none⟩) n c) → ∀ i (h : i < t.args.length), Zd v C b' (i * 7) t.args[i]) → (∃ c, v.cell? ⟨b, o + 5, none⟩ = some (.slice (some ⟨b', 0, none⟩) n c)) → t.args ≠ [] → Zd v C b o t) := fun v b' hv h6 hz ⟨c, h5⟩ hne => by
      have hs := hS.rs hv
      obtain ⟨p', c', a', g5, -, -, -, ⟨g0, g1, g2, g3, g4⟩, hq⟩ := hs.open
      rw [hn, h5] at g5
      simp only [Option.some.injEq, Value.slice.injEq] at g5
      obtain ⟨rfl, -, rfl⟩ := g5
      obtain ⟨-, -, hes, -⟩ := hs
      refine ⟨ho, hes, g0, g1, g2, g3, g4, h6, _, h5, some ⟨b', 0, none⟩, c, ?_, ?_, .inr ⟨b', 0, rfl, KA_of fun i hi => ?_⟩⟩
      · show _ = Value.slice _ (stripL t.args).length _
        rw [stripL_len, hn]
      · show ownH v C _ (stripL t.args).length _
        rw [stripL_len]; exact hq
      · have hi' : i < t.args.length := by have : i < (stripL t.args).length := hi; rwa [stripL_len] at this
        have := (hz _ h5 i hi').2.2
        rw [Nat.zero_add]
        have key : (stripL t.args)[i]'(by rw [stripL_len]; exact hi') = strip t.args[i] := stripL_get _ _ hi'
        show NodeA v (ownH v C) b' (i * 7) ((stripL t.args)[i]'(by rw [stripL_len]; exact hi'))
        rw [key]
        exact this
    have HNIL : Hid (∀ v, RS C w v → v.cell? ⟨b, o + 6, none⟩ = some (.int .i64 0) → t.args = [] → Zd v C b o t) := fun v hv h6 hnil => by
      have hs := hS.rs hv
      obtain ⟨p', c', a', g5, -, -, -, ⟨g0, g1, g2, g3, g4⟩, hq⟩ := hs.open
      obtain ⟨-, -, hes, -⟩ := hs
      refine ⟨ho, hes, g0, g1, g2, g3, g4, h6, _, g5, p', c', ?_, ?_, .inl ?_⟩
      · show _ = Value.slice _ (stripL t.args).length _
        rw [stripL_len]
      · show ownH v C _ (stripL t.args).length _
        rw [stripL_len]; exact hq
      · show stripL t.args = []
        rw [hnil, stripL_nil]
    clear hn ih hd hc hS1 hcs h50 h60 hf0 hbs hbx hS hB1
    go_enter Try.func22, Try.ntmps22
    go_wp2_with ((with_reducible refine HK.out.mono ?_); rintro e w2 ⟨rfl, hR2, h62, hx2⟩; obtain ⟨p, c, h5, -⟩ := HLK.out w2 hR2)
    go_loopw [18] (fun iv wr => RS C w wr ∧ ∃ j : Nat, j ≤ n ∧ iv = .int .i64 j ∧ wr.heap[w.heap.size]? = some (.cells #[.int .i64 d, .pointer av] 47) ∧ wr.cell? ⟨b, o + 6, none⟩ = some (.int .i64 0) ∧ Hid (∀ b' c, wr.cell? ⟨b, o + 5, none⟩ = some (.slice (some ⟨b', 0, none⟩) n c) → ∀ i (h : i < t.args.length), i < j → Zd wr C b' (i * 7) t.args[i])) (fun iv _ => n - (intOf iv).toNat)
    case atStart => exact ⟨hR2, 0, Nat.zero_le _, rfl, hx2, h62, fun b' c _ i _ hi => absurd hi (Nat.not_lt_zero _)⟩
    case round =>
      obtain ⟨hR, j, hj, rfl, hx, h6, hZ⟩ := hrel
      clear HK h5 hx2 h62
      by_cases hlt0 : j < n
      · obtain ⟨p', c', h5', hk0⟩ := HLK.out wr hR
        have hll : j < t.args.length := by rw [HN.out]; exact hlt0
        obtain ⟨b', rfl, hk⟩ : ∃ b', p' = some ⟨b', 0, none⟩ ∧ ∀ i (h : i < t.args.length), Sh wr C b' (i * 7) t.args[i] := by
          rcases hk0 with hk | hk
          · rw [hk] at hll; exact absurd hll (Nat.not_lt_zero _)
          · exact hk
        have hbx := (box_cell hx).1
        have HW : Hid (∀ v, Below wr.heap.size wr v → Calls Try.prog 22 #[.pointer (some ⟨b', j * 7, none⟩), .agg #[.int .i64 (d + 1), .pointer (some ⟨b, o, none⟩)], .func (.func 24) #[] #[]] v fun e v' => e = .returned (.bool true) ∧ RS C wr v' ∧ v'.heap[w.heap.size]? = some (.cells #[.int .i64 d, .pointer av] 47) ∧ v'.cell? ⟨w.heap.size, 0, none⟩ = some (.int .i64 d) ∧ v'.cell? ⟨b, o + 5, none⟩ = some (.slice (some ⟨b', 0, none⟩) n c') ∧ v'.cell? ⟨b, o + 6, none⟩ = some (.int .i64 0) ∧ Zd v' C b' (j * 7) t.args[j]) := fun v hv => by
          have hRv : RS C wr v := RS.below hv
          refine (HIH.out j hll v b' ((hk j hll).rs hRv)).mono fun e v' ⟨he, hr, hz⟩ => ?_
          have hrr := hRv.trans hr
          have hx' := hrr.2.2.1 _ _ _ hx
          exact ⟨he, hrr, hx', (box_cell hx').1, HKP.out wr v' hR hrr _ h5', HAT.out wr v' hR hrr h6, hz⟩
        have HZ : Hid (∀ v', RS C wr v' → v'.cell? ⟨b, o + 5, none⟩ = some (.slice (some ⟨b', 0, none⟩) n c') → Zd v' C b' (j * 7) t.args[j] → ∀ b9 c9, v'.cell? ⟨b, o + 5, none⟩ = some (.slice (some ⟨b9, 0, none⟩) n c9) → ∀ i (h : i < t.args.length), i < j + 1 → Zd v' C b9 (i * 7) t.args[i]) := fun v' hr h5 hz b9 c9 h59 i hi hij => by
          rw [h5] at h59
          simp only [Option.some.injEq, Value.slice.injEq, Addr.mk.injEq] at h59
          obtain ⟨⟨rfl, -, -⟩, -, -⟩ := h59
          by_cases e : i = j
          · subst e; exact hz
          · exact (hZ.out b' c' h5' i hi (by omega)).rs hr
        have wd : IntKind.i64.wrap (d + 1) = d + 1 := by rw [IntKind.wrap_i64]; omega
        have i1 : (0 : Int) ≤ (j : Int) := by omega
        have i2 : (j : Int) < (n : Int) := by omega
        clear hk hk0 hx HLK HIH HKP HAT HFIN HNIL hZ
        go_wp2
        go_region_held3 (fun w' => w'.cell? ⟨b, o + 5, none⟩ = some (.slice (some ⟨b', 0, none⟩) n c') ∧ w'.cell? ⟨w.heap.size, 0, none⟩ = some (.int .i64 d)) (go_keep) (first
          | (go_at_call 22; (with_reducible refine (HW.out _ ?_).mono ?_); (first | exact bel_d _ | exact bel_dn _ _ | go_grown); rintro e w3 ⟨rfl, hR3, hx3, hx4, hx5, hx6, hz3⟩; have HZ3 : Hid (Zd w3 C b' (j * 7) t.args[j]) := hz3; clear hz3))
        go_wp2
        go_roundw
        case rel => exact ⟨hR.trans hR3, j + 1, by omega, by go_num, hx3, hx6, HZ.out w3 hR3 hx5 HZ3.out⟩
        case measure => simp [intOf]; omega
      · have : j = n := by omega
        subst this
        go_wp2
        go_ret
        refine ⟨rfl, hR, ?_⟩
        obtain ⟨p', c', h5', hk0⟩ := HLK.out wr hR
        rcases hk0 with hk | ⟨b', rfl, -⟩
        · exact HNIL.out wr hR h6 hk
        · by_cases hnil : t.args = []
          · exact HNIL.out wr hR h6 hnil
          · exact HFIN.out wr b' hR h6 (fun c9 h59 i hi => hZ.out b' c9 h59 i hi (by rw [← HN.out]; exact hi)) ⟨c', h5'⟩ hnil

theorem top_strip (t : Nd) (hc : cnt t ≤ 9000) (C G : Nat) (v : World) (hs : Sh v C G 0 t) :
    Calls Try.prog 22 #[.pointer (some ⟨G, 0, none⟩), .agg #[.int .i64 1, .pointer none], .func (.func 24) #[] #[]] v fun e w' => e = .returned (.bool true) ∧ RS C v w' ∧ Zd w' C G 0 t :=
  walk_strip C (dep t) t v G 0 1 none (Nat.le_refl _) hc (by decide) (by have := dep_cnt t; omega) hs

/-- A node of one's own, laid in a block: its walk without places. -/
theorem strip_out (t : Nd) (hc : cnt t ≤ 9000) (C R : Nat) (z : Array Value) (hR : R < C) (p : Option Addr) (c : Nat) (w1 : World) (hC : C ≤ w1.heap.size) (hk : Kids w1 (ownH w1 C) (.slice p t.args.length c) t.args) (hz : w1.heap[R]? = some (.cells z 26)) (w2 : World)
    (hb : Below (w1.alloc (.cells #[.int .i64 t.kind, .string t.name, .int .u32 t.num, .int .i64 t.int_, .string t.key, .slice p t.args.length c, .int .i64 t.at_] 26)).heap.size (w1.alloc (.cells #[.int .i64 t.kind, .string t.name, .int .u32 t.num, .int .i64 t.int_, .string t.key, .slice p t.args.length c, .int .i64 t.at_] 26)) w2) :
    Calls Try.prog 22 #[.pointer (some ⟨w1.heap.size, 0, none⟩), .agg #[.int .i64 1, .pointer none], .func (.func 24) #[] #[]] w2 fun e w3 => e = .returned (.bool true) ∧ ∃ p c,
      (w3.cell? ⟨w1.heap.size, 0, none⟩ = some (.int .i64 t.kind) ∧ w3.cell? ⟨w1.heap.size, 1, none⟩ = some (.string t.name) ∧ w3.cell? ⟨w1.heap.size, 2, none⟩ = some (.int .u32 t.num) ∧ w3.cell? ⟨w1.heap.size, 3, none⟩ = some (.int .i64 t.int_) ∧ w3.cell? ⟨w1.heap.size, 4, none⟩ = some (.string t.key) ∧ w3.cell? ⟨w1.heap.size, 5, none⟩ = some (.slice p t.args.length c) ∧ w3.cell? ⟨w1.heap.size, 6, none⟩ = some (.int .i64 0))
      ∧ Kids w3 (ownH w3 C) (.slice p t.args.length c) (stripL t.args) ∧ w3.heap[R]? = some (.cells z 26) ∧ Below C w1 w3 := by
  have hx := box_heap w1 (.cells #[.int .i64 t.kind, .string t.name, .int .u32 t.num, .int .i64 t.int_, .string t.key, .slice p t.args.length c, .int .i64 t.at_] 26)
  have hx2 : w2.heap[w1.heap.size]? = some (.cells #[.int .i64 t.kind, .string t.name, .int .u32 t.num, .int .i64 t.int_, .string t.key, .slice p t.args.length c, .int .i64 t.at_] 26) := by rw [hb.block _ (hlt hx)]; exact hx
  have hb0 := bel (bel_alloc w1 (.cells #[.int .i64 t.kind, .string t.name, .int .u32 t.num, .int .i64 t.int_, .string t.key, .slice p t.args.length c, .int .i64 t.at_] 26)) hb
  have hk2 := hk.ownBelow hb0
  have hs : Sh w2 C w1.heap.size 0 t := ⟨rfl, hC, ⟨_, hx2⟩, t, ⟨cell_heap hx2 0, cell_heap hx2 1, cell_heap hx2 2, cell_heap hx2 3, cell_heap hx2 4, cell_heap hx2 6, _, cell_heap hx2 5, hk2⟩, rfl⟩
  refine (top_strip t hc C w1.heap.size w2 hs).mono fun e w3 ⟨he, hr, hzd⟩ => ?_
  obtain ⟨-, -, ⟨e0, e1, e2, e3, e4, e6, sv', e5, hk3⟩⟩ := hzd
  have hk4 := hk3
  obtain ⟨p', c', rfl, -⟩ := hk3
  have hl : (strip t).args.length = t.args.length := stripL_len t.args
  rw [hl] at hk4 e5
  have hB : Below C w1 w3 := (hb0.mono hC).trans (hr.1 (Nat.le_trans hC hb0.size))
  simp only [Nat.zero_add] at e0 e1 e2 e3 e4 e5 e6
  exact ⟨he, p', c', ⟨e0, e1, e2, e3, e4, e5, e6⟩, hk4, by rw [hB.block R hR]; exact hz, hB⟩

set_option maxRecDepth 100000 in
set_option maxHeartbeats 2000000 in
theorem strip_any (t : Nd) (sv : Value) (w : World) (hc : cnt t ≤ 9000) (hok : ok1 t) (hk : Kids w anyH sv t.args) :
    Calls Try.prog 7 #[nv t sv] w fun e w' => ∃ p c, e = .returned (nv (strip t) (.slice p t.args.length c)) ∧ Kids w' (ownH w' w.heap.size) (.slice p t.args.length c) (stripL t.args) ∧ Below w.heap.size w w' := by
  have hn := box_node w t sv hk
  have hb1 := bel_alloc w (.cells #[.int .i64 t.kind, .string t.name, .int .u32 t.num, .int .i64 t.int_, .string t.key, sv, .int .i64 t.at_] 26)
  have HC : Hid (Calls Try.prog 21 #[.pointer (some ⟨w.heap.size, 0, none⟩)] ((w.alloc (.cells #[.int .i64 t.kind, .string t.name, .int .u32 t.num, .int .i64 t.int_, .string t.key, sv, .int .i64 t.at_] 26)).alloc (.cells #[.int .i64 0, .string ⟨#[]⟩, .int .u32 0, .int .i64 0, .string ⟨#[]⟩, .slice none 0 0, .int .i64 0] 26)) fun e v' => ∃ p c, e = .returned (.agg #[.int .i64 t.kind, .string t.name, .int .u32 t.num, .int .i64 t.int_, .string t.key, .slice p t.args.length c, .int .i64 t.at_]) ∧ Kids v' (ownH v' (w.heap.size + 2)) (.slice p t.args.length c) t.args ∧ v'.heap[w.heap.size + 1]? = some (.cells #[.int .i64 0, .string ⟨#[]⟩, .int .u32 0, .int .i64 0, .string ⟨#[]⟩, .slice none 0 0, .int .i64 0] 26) ∧ Below w.heap.size w v' ∧ w.heap.size + 2 ≤ v'.heap.size) := by
    have hn2 := hn.below (bel_alloc _ (.cells #[.int .i64 0, .string ⟨#[]⟩, .int .u32 0, .int .i64 0, .string ⟨#[]⟩, .slice none 0 0, .int .i64 0] 26))
    have hsz : ((w.alloc (.cells #[.int .i64 t.kind, .string t.name, .int .u32 t.num, .int .i64 t.int_, .string t.key, sv, .int .i64 t.at_] 26)).alloc (.cells #[.int .i64 0, .string ⟨#[]⟩, .int .u32 0, .int .i64 0, .string ⟨#[]⟩, .slice none 0 0, .int .i64 0] 26)).heap.size = w.heap.size + 2 := by simp
    have hb2 := bel hb1 (bel_alloc (w.alloc (.cells #[.int .i64 t.kind, .string t.name, .int .u32 t.num, .int .i64 t.int_, .string t.key, sv, .int .i64 t.at_] 26)) (.cells #[.int .i64 0, .string ⟨#[]⟩, .int .u32 0, .int .i64 0, .string ⟨#[]⟩, .slice none 0 0, .int .i64 0] 26))
    have hz := two_heap w (.cells #[.int .i64 t.kind, .string t.name, .int .u32 t.num, .int .i64 t.int_, .string t.key, sv, .int .i64 t.at_] 26) (.cells #[.int .i64 0, .string ⟨#[]⟩, .int .u32 0, .int .i64 0, .string ⟨#[]⟩, .slice none 0 0, .int .i64 0] 26)
    obtain ⟨V, hV⟩ : ∃ V, (w.alloc (.cells #[.int .i64 t.kind, .string t.name, .int .u32 t.num, .int .i64 t.int_, .string t.key, sv, .int .i64 t.at_] 26)).alloc (.cells #[.int .i64 0, .string ⟨#[]⟩, .int .u32 0, .int .i64 0, .string ⟨#[]⟩, .slice none 0 0, .int .i64 0] 26) = V := ⟨_, rfl⟩
    rw [hV] at hn2 hsz hb2 hz ⊢
    refine (copied_any (dep t) t w.heap.size 0 V (Nat.le_refl _) hc hok hn2).mono fun e v' ⟨s, he, hk, hb⟩ => ?_
    obtain ⟨p, c, rfl, hq⟩ := id hk
    rw [hsz] at hk
    exact ⟨p, c, he, hk, by rw [hb.block _ (hlt hz)]; exact hz, bel hb2 hb, by have := hb.size; omega⟩
  have HO := @strip_out t hc (w.heap.size + 2) (w.heap.size + 1) #[.int .i64 0, .string ⟨#[]⟩, .int .u32 0, .int .i64 0, .string ⟨#[]⟩, .slice none 0 0, .int .i64 0] (by omega)
  have HOH : Hid (∀ (p : Option Addr) (c : Nat) (w1 : World), w.heap.size + 2 ≤ w1.heap.size → Kids w1 (ownH w1 (w.heap.size + 2)) (.slice p t.args.length c) t.args → w1.heap[w.heap.size + 1]? = some (.cells #[.int .i64 0, .string ⟨#[]⟩, .int .u32 0, .int .i64 0, .string ⟨#[]⟩, .slice none 0 0, .int .i64 0] 26) → ∀ (w2 : World),
    Below (w1.alloc (.cells #[.int .i64 t.kind, .string t.name, .int .u32 t.num, .int .i64 t.int_, .string t.key, .slice p t.args.length c, .int .i64 t.at_] 26)).heap.size (w1.alloc (.cells #[.int .i64 t.kind, .string t.name, .int .u32 t.num, .int .i64 t.int_, .string t.key, .slice p t.args.length c, .int .i64 t.at_] 26)) w2 →
    Calls Try.prog 22 #[.pointer (some ⟨w1.heap.size, 0, none⟩), .agg #[.int .i64 1, .pointer none], .func (.func 24) #[] #[]] w2 fun e w3 => e = .returned (.bool true) ∧ ∃ p c,
      (w3.cell? ⟨w1.heap.size, 0, none⟩ = some (.int .i64 t.kind) ∧ w3.cell? ⟨w1.heap.size, 1, none⟩ = some (.string t.name) ∧ w3.cell? ⟨w1.heap.size, 2, none⟩ = some (.int .u32 t.num) ∧ w3.cell? ⟨w1.heap.size, 3, none⟩ = some (.int .i64 t.int_) ∧ w3.cell? ⟨w1.heap.size, 4, none⟩ = some (.string t.key) ∧ w3.cell? ⟨w1.heap.size, 5, none⟩ = some (.slice p t.args.length c) ∧ w3.cell? ⟨w1.heap.size, 6, none⟩ = some (.int .i64 0))
      ∧ Kids w3 (ownH w3 (w.heap.size + 2)) (.slice p t.args.length c) (stripL t.args) ∧ w3.heap[w.heap.size + 1]? = some (.cells #[.int .i64 0, .string ⟨#[]⟩, .int .u32 0, .int .i64 0, .string ⟨#[]⟩, .slice none 0 0, .int .i64 0] 26) ∧ Below (w.heap.size + 2) w1 w3) := HO
  clear hn hb1 hk HO
  unfold nv strip
  go_enter Try.func7, Try.ntmps7
  go_wp2_with (first
    | (go_at_call 21; (with_reducible refine HC.out.mono ?_); rintro e w1 ⟨p, c, rfl, hk1, hz1, hb1, hs1⟩; have HK1 : Hid (Kids w1 (ownH w1 (w.heap.size + 2)) (.slice p t.args.length c) t.args) := hk1; clear hk1)
    | (go_at_call 23; refine (top_any _).mono ?_; rintro e w2 ⟨rfl, hb2⟩)
    | (go_at_call 22; (with_reducible refine (HOH.out p c w1 hs1 HK1.out hz1 _ hb2).mono ?_); rintro e w3 ⟨rfl, p3, c3, ⟨x0, x1, x2, x3, x4, x5, x6⟩, hk3, hz3, hb3⟩; have HK3 : Hid (Kids w3 (ownH w3 (w.heap.size + 2)) (.slice p3 t.args.length c3) (stripL t.args)) := hk3; obtain ⟨⟨r0, r1, r2, r3, r4, r5, r6⟩, q0, q1, q2, q3, q4, q5, q6⟩ := seven hz3; clear hk3))
  refine bodyPost_ret (by simp [results, Try.results7, go_sem, *]; try rfl) rfl ?_
  have hoff := ((((((((Off.refl (w.heap.size + 1) w3).set 0 (.int .i64 t.kind)).set 1 (.string t.name)).set 2 (.int .u32 t.num)).set 3 (.int .i64 t.int_)).set 4 (.string t.key)).set 5 (.slice p3 t.args.length c3)).set 6 (.int .i64 0))
  exact ⟨p3, c3, rfl, (hoff.kids (by omega) HK3.out).weak (ownH.mono (by omega)), hoff.below (hb1.trans (hb3.mono (by omega))) (by omega)⟩

end Go.Proofs.Ytpidjmgifglmiab
