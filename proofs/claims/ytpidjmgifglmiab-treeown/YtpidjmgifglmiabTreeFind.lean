import Derived.Test.YtpidjmgifglmiabTreeCopy
/- Package tree: Find. -/
namespace Go.Proofs.Ytpidjmgifglmiab
open Go.RowKit
set_option linter.unusedVariables false
set_option linter.unusedSimpArgs false

/-- A slice of whole numbers. -/
def Path (w : World) (v : Value) (xs : List Int) : Prop :=
  ∃ p c, v = .slice p xs.length c ∧ (xs = [] ∨ ∃ b o, p = some ⟨b, o, none⟩ ∧ ∀ i (h : i < xs.length), w.cell? ⟨b, o + i, none⟩ = some (.int .i64 xs[i]))
theorem Path.below {w w' : World} {v : Value} {xs : List Int} (h : Path w v xs) (k : Below w.heap.size w w') : Path w' v xs := by
  obtain ⟨p, c, hv, h⟩ := h
  refine ⟨p, c, hv, ?_⟩
  rcases h with h | ⟨b, o, hp, h⟩
  · exact .inl h
  · exact .inr ⟨b, o, hp, fun i hi => (k.cell (mcell_lt (h i hi))).trans (h i hi)⟩

def findP : List Int → Nd → Option Nd
  | [], t => some t
  | i :: r, t => if 0 ≤ i then match t.args[i.toNat]? with | some u => findP r u | none => none else none
theorem findP_in {i : Int} {r : List Int} {t : Nd} (h0 : 0 ≤ i) (h : i.toNat < t.args.length) : findP (i :: r) t = findP r t.args[i.toNat] := by
  rw [findP, if_pos h0, List.getElem?_eq_getElem h]
theorem findP_low {i : Int} {r : List Int} {t : Nd} (h0 : i < 0) : findP (i :: r) t = none := by rw [findP, if_neg (by omega)]
theorem findP_high {i : Int} {r : List Int} {t : Nd} (h : (t.args.length : Int) ≤ i) : findP (i :: r) t = none := by
  rw [findP, if_pos (by omega), List.getElem?_eq_none (by omega)]
def zeroNd : Nd := ⟨0, ⟨#[]⟩, 0, 0, ⟨#[]⟩, [], 0⟩

set_option maxRecDepth 100000 in
set_option maxHeartbeats 2000000 in
theorem find_any (t : Nd) (sv pv : Value) (xs : List Int) (w : World) (hxs : xs.length ≤ 35184372088832) (hc : cnt t ≤ 9000) (hok : ok1 t) (hk : Kids w anyH sv t.args) (hp : Path w pv xs) :
    Calls Try.prog 15 #[nv t sv, pv] w fun e w' => ∃ p n c, e = .returned (.tuple #[nv ((findP xs t).getD zeroNd) (.slice p n c), .bool (findP xs t).isSome]) ∧ Kids w' anyH (.slice p n c) ((findP xs t).getD zeroNd).args ∧ Below w.heap.size w w' := by
  have hn := box_node w t sv hk
  have hb1 := bel_alloc w (.cells #[.int .i64 t.kind, .string t.name, .int .u32 t.num, .int .i64 t.int_, .string t.key, sv, .int .i64 t.at_] 26)
  have hb2 := bel_alloc (w.alloc (.cells #[.int .i64 t.kind, .string t.name, .int .u32 t.num, .int .i64 t.int_, .string t.key, sv, .int .i64 t.at_] 26)) (.cells #[.int .i64 0, .string ⟨#[]⟩, .int .u32 0, .int .i64 0, .string ⟨#[]⟩, .slice none 0 0, .int .i64 0] 26)
  have hz := two_heap w (.cells #[.int .i64 t.kind, .string t.name, .int .u32 t.num, .int .i64 t.int_, .string t.key, sv, .int .i64 t.at_] 26) (.cells #[.int .i64 0, .string ⟨#[]⟩, .int .u32 0, .int .i64 0, .string ⟨#[]⟩, .slice none 0 0, .int .i64 0] 26)
  have HN : Hid (NodeA ((w.alloc (.cells #[.int .i64 t.kind, .string t.name, .int .u32 t.num, .int .i64 t.int_, .string t.key, sv, .int .i64 t.at_] 26)).alloc (.cells #[.int .i64 0, .string ⟨#[]⟩, .int .u32 0, .int .i64 0, .string ⟨#[]⟩, .slice none 0 0, .int .i64 0] 26)) anyH w.heap.size 0 t ∧ Below w.heap.size w ((w.alloc (.cells #[.int .i64 t.kind, .string t.name, .int .u32 t.num, .int .i64 t.int_, .string t.key, sv, .int .i64 t.at_] 26)).alloc (.cells #[.int .i64 0, .string ⟨#[]⟩, .int .u32 0, .int .i64 0, .string ⟨#[]⟩, .slice none 0 0, .int .i64 0] 26))
    ∧ ((w.alloc (.cells #[.int .i64 t.kind, .string t.name, .int .u32 t.num, .int .i64 t.int_, .string t.key, sv, .int .i64 t.at_] 26)).alloc (.cells #[.int .i64 0, .string ⟨#[]⟩, .int .u32 0, .int .i64 0, .string ⟨#[]⟩, .slice none 0 0, .int .i64 0] 26)).heap[w.heap.size + 1]? = some (.cells #[.int .i64 0, .string ⟨#[]⟩, .int .u32 0, .int .i64 0, .string ⟨#[]⟩, .slice none 0 0, .int .i64 0] 26)) := ⟨hn.below hb2, bel hb1 hb2, hz⟩
  obtain ⟨pp, pc, rfl, hpp⟩ := hp
  obtain ⟨n, hnn⟩ : ∃ n, xs.length = n := ⟨_, rfl⟩
  have HL : Hid (xs.length = n) := hnn
  have HP : Hid (xs = [] ∨ ∃ b o, pp = some ⟨b, o, none⟩ ∧ ∀ i (h : i < xs.length), w.cell? ⟨b, o + i, none⟩ = some (.int .i64 xs[i])) := hpp
  rw [hnn] at hxs ⊢
  have HOK : Hid (ok1 t ∧ cnt t ≤ 9000) := ⟨hok, hc⟩
  clear hpp hn hb1 hb2 hz hnn hk hok hc
  unfold nv
  go_enter Try.func15, Try.ntmps15
  go_wp2
  go_loopw [6, 11] (fun av iv wr => Below w.heap.size w wr ∧ wr.heap[w.heap.size + 1]? = some (.cells #[.int .i64 0, .string ⟨#[]⟩, .int .u32 0, .int .i64 0, .string ⟨#[]⟩, .slice none 0 0, .int .i64 0] 26) ∧ ∃ (j : Nat) (b o : Nat) (u : Nd), j ≤ n ∧ iv = .int .i64 j ∧ av = .pointer (some ⟨b, o, none⟩) ∧ Hid (NodeA wr anyH b o u ∧ ok1 u ∧ cnt u ≤ 9000 ∧ findP xs t = findP (xs.drop j) u)) (fun _ iv _ => n - (intOf iv).toNat)
  case atStart => exact ⟨HN.out.2.1, HN.out.2.2, 0, w.heap.size, 0, t, Nat.zero_le _, rfl, rfl, HN.out.1, HOK.out.1, HOK.out.2, by rw [List.drop_zero]⟩
  case round =>
    obtain ⟨hb, hz, j, b, o, u, hj, rfl, rfl, hS⟩ := hrel
    obtain ⟨⟨r0, r1, r2, r3, r4, r5, r6⟩, q0, q1, q2, q3, q4, q5, q6⟩ := seven hz
    have HZ : Hid (wr.heap[w.heap.size + 1]? = some (.cells #[.int .i64 0, .string ⟨#[]⟩, .int .u32 0, .int .i64 0, .string ⟨#[]⟩, .slice none 0 0, .int .i64 0] 26)) := hz
    clear hz
    by_cases hlt0 : j < n
    · have hll : j < xs.length := by rw [HL.out]; exact hlt0
      obtain ⟨b', o', rfl, hx⟩ : ∃ b o, pp = some ⟨b, o, none⟩ ∧ ∀ i (h : i < xs.length), w.cell? ⟨b, o + i, none⟩ = some (.int .i64 xs[i]) := by
        rcases HP.out with hk | hk
        · rw [hk] at hll; exact absurd hll (Nat.not_lt_zero _)
        · exact hk
      have hx1 := (hb.cell (mcell_lt (hx j hll))).trans (hx j hll)
      obtain ⟨hn, hok, hc, hf⟩ := hS.out
      have hd : xs.drop j = xs[j] :: xs.drop (j + 1) := List.drop_eq_getElem_cons hll
      rw [hd] at hf
      obtain ⟨xi, hxi⟩ : ∃ xi, xs[j] = xi := ⟨_, rfl⟩
      rw [hxi] at hx1 hf
      obtain ⟨e0, -, -, -, -, -, s5, e5, p5, c5, rfl, hq, hk⟩ := hn
      have hul : u.args.length ≤ 9000 := by have := cntL_len u.args; unfold cnt at hc; omega
      have i1 : (0 : Int) ≤ (j : Int) := by omega
      have i2 : (j : Int) < (n : Int) := by omega
      by_cases x0 : xi < 0
      · have HF : Hid (findP xs t = none) := by rw [hf, findP_low x0]; exact rfl
        clear hx hf hd hxi hS hk HP
        go_wp2
        refine bodyPost_ret (by simp [results, Try.results15, go_sem, *]; try rfl) rfl ?_
        rw [HF.out]
        have hoff := ((((((((Off.refl (w.heap.size + 1) wr).set 0 (.int .i64 0)).set 1 (.string ⟨#[]⟩)).set 2 (.int .u32 0)).set 3 (.int .i64 0)).set 4 (.string ⟨#[]⟩)).set 5 (.slice none 0 0)).set 6 (.int .i64 0))
        exact ⟨none, 0, 0, rfl, ⟨none, 0, rfl, trivial, .inl rfl⟩, hoff.below hb (by omega)⟩
      · by_cases x1 : (u.args.length : Int) ≤ xi
        · have HF : Hid (findP xs t = none) := by rw [hf, findP_high x1]; exact rfl
          clear hx hf hd hxi hS hk HP
          go_wp2
          refine bodyPost_ret (by simp [results, Try.results15, go_sem, *]; try rfl) rfl ?_
          rw [HF.out]
          have hoff := ((((((((Off.refl (w.heap.size + 1) wr).set 0 (.int .i64 0)).set 1 (.string ⟨#[]⟩)).set 2 (.int .u32 0)).set 3 (.int .i64 0)).set 4 (.string ⟨#[]⟩)).set 5 (.slice none 0 0)).set 6 (.int .i64 0))
          exact ⟨none, 0, 0, rfl, ⟨none, 0, rfl, trivial, .inl rfl⟩, hoff.below hb (by omega)⟩
        · obtain ⟨m, rfl⟩ : ∃ m : Nat, xi = (m : Int) := ⟨xi.toNat, by omega⟩
          have hm : m < u.args.length := by omega
          rw [findP_in (by omega) (by simpa using hm)] at hf
          obtain ⟨b2, o2, rfl, hka⟩ : ∃ b2 o2, p5 = some ⟨b2, o2, none⟩ ∧ KA wr anyH b2 o2 u.args := by
            rcases hk with hk | hk
            · rw [hk] at hm; exact absurd hm (Nat.not_lt_zero _)
            · exact hk
          have HNX : Hid (NodeA wr anyH b2 (o2 + m * 7) u.args[m] ∧ ok1 u.args[m] ∧ cnt u.args[m] ≤ 9000 ∧ findP xs t = findP (xs.drop (j + 1)) u.args[m]) := ⟨KA_get hka hm, okL_get hok.2 hm, by have h1 := cnt_get hm; unfold cnt at hc; omega, hf⟩
          have x2 : (m : Int) < (u.args.length : Int) := by omega
          have x3 : ¬ ((u.args.length : Int) ≤ (m : Int)) := x1
          clear hx hf hd hxi hS hk HP hka
          go_wp2
          go_roundw
          case rel => exact ⟨hb, HZ.out, j + 1, b2, o2 + m * 7, u.args[m], by omega, by go_num, rfl, HNX.out⟩
          case measure => simp [intOf]; omega
    · have : j = n := by omega
      subst this
      obtain ⟨hn, hok, hc, hf⟩ := hS.out
      rw [List.drop_of_length_le (by rw [HL.out]; exact Nat.le_refl _), findP] at hf
      have HCP : Hid (Calls Try.prog 21 #[.pointer (some ⟨b, o, none⟩)] wr fun e v' => ∃ p n c, e = .returned (.agg #[.int .i64 u.kind, .string u.name, .int .u32 u.num, .int .i64 u.int_, .string u.key, .slice p n c, .int .i64 u.at_]) ∧ Kids v' (ownH v' wr.heap.size) (.slice p n c) u.args ∧ v'.heap[w.heap.size + 1]? = some (.cells #[.int .i64 0, .string ⟨#[]⟩, .int .u32 0, .int .i64 0, .string ⟨#[]⟩, .slice none 0 0, .int .i64 0] 26) ∧ Below w.heap.size w v') :=
        (copied_any (dep u) u b o wr (Nat.le_refl _) hc hok hn).mono fun e v' ⟨s, he, hk, hb'⟩ => by
          obtain ⟨p, c, rfl, -⟩ := id hk
          exact ⟨p, _, c, he, hk, by rw [hb'.block _ (hlt HZ.out)]; exact HZ.out, bel hb hb'⟩
      have HF : Hid (findP xs t = some u) := hf
      clear hf hn hS HP
      have hz := hlt HZ.out
      go_wp2_with (go_at_call 21; (with_reducible refine HCP.out.mono ?_); rintro e w3 ⟨p3, n3, c3, rfl, hk3, hz3, hb3⟩; have HK3 : Hid (Kids w3 (ownH w3 wr.heap.size) (.slice p3 n3 c3) u.args) := hk3; obtain ⟨⟨t0, t1, t2, t3, t4, t5, t6⟩, v0, v1, v2, v3, v4, v5, v6⟩ := seven hz3; clear hk3 hz3)
      refine bodyPost_ret (by simp [results, Try.results15, go_sem, *]; try rfl) rfl ?_
      rw [HF.out]
      have hoff := ((((((((Off.refl (w.heap.size + 1) w3).set 0 (.int .i64 u.kind)).set 1 (.string u.name)).set 2 (.int .u32 u.num)).set 3 (.int .i64 u.int_)).set 4 (.string u.key)).set 5 (.slice p3 n3 c3)).set 6 (.int .i64 u.at_))
      exact ⟨p3, n3, c3, rfl, (hoff.kids (by omega) HK3.out).weak (fun _ _ _ _ => trivial), hoff.below hb3 (by omega)⟩

end Go.Proofs.Ytpidjmgifglmiab
