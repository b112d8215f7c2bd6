import Derived.Test.YtpidjmgifglmiabTreeNames
import Derived.Test.YtpidjmgifglmiabTreeRef
/- The reference's Names; sameTexts. -/
namespace Go.Proofs.Ytpidjmgifglmiab
open Go.RowKit
set_option linter.unusedVariables false
set_option linter.unusedSimpArgs false

def RNamesTo (N : Nat) : Prop := ∀ (t : Nd) (p : Option Addr) (c : Nat) (w : World), dep t ≤ N → cnt t ≤ 9000 → Kids w anyH (.slice p t.args.length c) t.args →
  Calls Try.prog 13 #[nv t (.slice p t.args.length c)] w fun e w' => ∃ v, e = .returned v ∧ OwnS w' w.heap.size v (names t) ∧ (names t = [] → v = .slice none 0 0) ∧ Below w.heap.size w w'
set_option maxRecDepth 100000 in
set_option maxHeartbeats 4000000 in
theorem rnames_to : ∀ N, RNamesTo N := by
  intro N
  induction N with
  | zero => intro t p c w hd; unfold dep at hd; omega
  | succ N ih =>
    intro t p c w hd hc hk
    have hlen : t.args.length ≤ 9000 := by have := cntL_len t.args; unfold cnt at hc; omega
    obtain ⟨n, hn⟩ : ∃ n, t.args.length = n := ⟨_, rfl⟩
    have HN : Hid (t.args.length = n) := hn
    have HK : Hid (Kids w anyH (.slice p t.args.length c) t.args) := hk
    have HIH : Hid (RNamesTo N) := ih
    obtain ⟨i0, hi0, hz0, hz1, hz2⟩ := info_parts info_string
    have HBX : Hid (Below w.heap.size w (w.alloc (.cells #[.int .i64 t.kind, .string t.name, .int .u32 t.num, .int .i64 t.int_, .string t.key, .slice p n c, .int .i64 t.at_] 26)) ∧ (w.alloc (.cells #[.int .i64 t.kind, .string t.name, .int .u32 t.num, .int .i64 t.int_, .string t.key, .slice p n c, .int .i64 t.at_] 26)).heap[w.heap.size]? = some (.cells #[.int .i64 t.kind, .string t.name, .int .u32 t.num, .int .i64 t.int_, .string t.key, .slice p n c, .int .i64 t.at_] 26)) := ⟨bel_alloc _ _, box_heap _ _⟩
    unfold nv names
    rw [hn] at hlen ⊢
    clear hn hk ih
    by_cases hk1 : t.kind = 1
    · rw [if_pos (by rw [hk1]; rfl)]
      have HK1 : Hid (t.kind = 1) := hk1
      go_enter Try.func13, Try.ntmps13
      go_wp2_with (at_builtin; refine wpList_append_own_at _ rfl _ _ 30 rfl (w.heap.size + 1) 9 i0 _ 1 16 Try.underlying30 hi0 hz0 hz1 hz2 rfl (by decide) (.slice none 0 0) 0 [] rfl (World.ownsRow_nil _ _ _ _) ⟨w.heap.size + 1, 0, none⟩ 1 1 [.string t.name] rfl rfl (World.news_of_block (cs := #[.string t.name]) (t := 9) (fr := (0, 0)) (two_heap _ _ _)) (by simp [Value.oneCell']) (by unfold maxLen; omega) (by omega) (by simp) ?_; intro v4 w4 hown4 hgrow hnil hat; have HO4 : Hid (OwnS w4 (w.heap.size + 1) v4 [t.name]) := hown4; have HG4 : Hid (((w.alloc (.cells #[.int .i64 1, .string t.name, .int .u32 t.num, .int .i64 t.int_, .string t.key, .slice p n c, .int .i64 t.at_] 26)).alloc (.cells #[.string t.name] 9)).grownBy w4 none) := hgrow; clear hown4 hgrow hnil hat)
      have hb4 : Below w.heap.size w w4 := Below.grown (bel (bel_alloc _ _) (bel_alloc _ _)) HG4.out (by simp; omega) (fun k hk => by cases hk)
      have hx4 : w4.heap[w.heap.size]? = some (.cells #[.int .i64 t.kind, .string t.name, .int .u32 t.num, .int .i64 t.int_, .string t.key, .slice p n c, .int .i64 t.at_] 26) := by
        rw [HG4.out.block w.heap.size (by simp; omega) (by simp), HK1.out]
        exact heap_old _ _ (box_heap _ _)
      have HF : Hid (Below w.heap.size w w4 ∧ w4.heap[w.heap.size]? = some (.cells #[.int .i64 t.kind, .string t.name, .int .u32 t.num, .int .i64 t.int_, .string t.key, .slice p n c, .int .i64 t.at_] 26)) := ⟨hb4, hx4⟩
      clear hb4 hx4 hk1
      go_loopw [3, 4] (fun lv iv wr => Below w.heap.size w wr ∧ ∃ (j : Nat) (ov : Value), ov = lv ∧ j ≤ n ∧ iv = .int .i64 j ∧ wr.heap[w.heap.size]? = some (.cells #[.int .i64 t.kind, .string t.name, .int .u32 t.num, .int .i64 t.int_, .string t.key, .slice p n c, .int .i64 t.at_] 26) ∧ Hid (OwnS wr (w.heap.size + 1) ov ([t.name] ++ namesL (t.args.take j)) ∧ ([t.name] ++ namesL (t.args.take j) = [] → ov = .slice none 0 0))) (fun _ iv _ => n - (intOf iv).toNat)
      case atStart => exact ⟨HF.out.1, 0, _, rfl, Nat.zero_le _, rfl, HF.out.2, by rw [List.take_zero, namesL_nil, List.append_nil]; exact ⟨HO4.out, fun e => by cases e⟩⟩
      case round =>
        obtain ⟨hb, j, ov, rfl, hj, rfl, hx, hS⟩ := hrel
        have h5 := cell5 hx
        have HX : Hid (wr.heap[w.heap.size]? = some (.cells #[.int .i64 t.kind, .string t.name, .int .u32 t.num, .int .i64 t.int_, .string t.key, .slice p n c, .int .i64 t.at_] 26)) := hx
        by_cases hlt0 : j < n
        · have hll : j < t.args.length := by rw [HN.out]; exact hlt0
          obtain ⟨b1, o1, q1, d1, rfl, ⟨x0, x1, x2, x3, x4, x5, x6⟩, kx⟩ := kid_at HK.out hb hll
          have hnl : ([t.name] ++ namesL (t.args.take (j + 1))).length ≤ 9001 := by
            have h1 := namesL_le (t.args.take (j + 1))
            have h2 := cntL_take_le t.args (j + 1)
            have h3 : cnt t = 1 + cntL t.args := rfl
            rw [List.length_append]
            simp
            omega
          have hnx : [t.name] ++ namesL (t.args.take (j + 1)) = ([t.name] ++ namesL (t.args.take j)) ++ names t.args[j] := by rw [namesL_take hll, List.append_assoc]
          rw [hnx] at hnl
          obtain ⟨acc, hacc⟩ : ∃ acc, [t.name] ++ namesL (t.args.take j) = acc := ⟨_, rfl⟩
          obtain ⟨ns, hns⟩ : ∃ ns, names t.args[j] = ns := ⟨_, rfl⟩
          rw [hacc, hns] at hnl hnx
          rw [hacc] at hS
          have HNX : Hid ([t.name] ++ namesL (t.args.take (j + 1)) = acc ++ ns) := hnx
          rw [List.length_append] at hnl
          have HW : Hid (Calls Try.prog 13 #[.agg #[.int .i64 t.args[j].kind, .string t.args[j].name, .int .u32 t.args[j].num, .int .i64 t.args[j].int_, .string t.args[j].key, .slice q1 t.args[j].args.length d1, .int .i64 t.args[j].at_]] wr fun e v' => ∃ v, e = .returned v ∧ OwnS v' wr.heap.size v ns ∧ (ns = [] → v = .slice none 0 0) ∧ Below wr.heap.size wr v') := by
            have := HIH.out t.args[j] q1 d1 wr (by have := dep_get hll; unfold dep at hd ⊢; unfold dep at this; omega) (by have := cnt_get hll; unfold cnt at hc; omega) kx
            rw [hns] at this
            exact this
          have i1 : (0 : Int) ≤ (j : Int) := by omega
          have i2 : (j : Int) < (n : Int) := by omega
          have hob : ∀ k, ov.ownBlock = some k → w.heap.size + 1 ≤ k ∧ k < wr.heap.size := fun k hk => hS.out.1.lt k hk
          have HOB : Hid (∀ k, ov.ownBlock = some k → w.heap.size + 1 ≤ k ∧ k < wr.heap.size) := hob
          have hsz := hlt hx
          clear kx HIH HK hnx hns hacc hx hob
          by_cases hns0 : ns = []
          · have HNS : Hid (ns = []) := hns0
            clear hns0
            go_wp2_with (first
              | (go_at_call 13; (with_reducible refine HW.out.mono ?_); rintro e w3 ⟨v3, rfl, ho3, hz3, hb3⟩; obtain rfl := hz3 HNS.out; have HO3 : Hid (OwnS w3 (w.heap.size + 1) ov acc) := hS.out.1.below hb3; clear ho3 hz3)
              | (at_builtin; refine wpList_append_own_none rfl _ _ 30 rfl (w.heap.size + 1) 9 i0 1 Try.underlying30 hi0 ov acc.length (strs acc) rfl HO3.out rfl ?_))
            go_roundw
            case rel => exact ⟨bel hb hb3, j + 1, _, rfl, by omega, by go_num, by rw [hb3.block _ (hlt HX.out)]; exact HX.out, by rw [HNX.out, HNS.out, List.append_nil]; exact ⟨HO3.out, hS.out.2⟩⟩
            case measure => simp [intOf]; omega
          · have hnp : 0 < ns.length := by cases ns with | nil => exact absurd rfl hns0 | cons a b => simp
            have HNS : Hid (¬ ns = []) := hns0
            clear hns0
            go_wp2_with (first
              | (go_at_call 13; (with_reducible refine HW.out.mono ?_); rintro e w3 ⟨v3, rfl, ho3, hz3, hb3⟩; obtain ⟨g3, c3, rfl, hg3, hg4⟩ := World.ownsRow.form ho3 hnp; have HO3 : Hid (OwnS w3 (w.heap.size + 1) ov acc) := hS.out.1.below hb3; have HN3 : Hid (∀ j u, (strs ns)[j]? = some u → w3.cell? ((⟨g3, 0, none⟩ : Addr).add j) = some u) := ho3.cells (g := g3) rfl; have hs3 := hb3.size; clear ho3 hz3)
              | (at_builtin; refine wpList_append_own_at _ rfl _ _ 30 rfl (w.heap.size + 1) 9 i0 _ 1 16 Try.underlying30 hi0 hz0 hz1 hz2 rfl (by decide) ov acc.length (strs acc) rfl HO3.out ⟨g3, 0, none⟩ ns.length c3 (strs ns) rfl (by simp [strs]) HN3.out (by intro u hu; obtain ⟨x, -, rfl⟩ := List.mem_map.1 hu; rfl) (by unfold maxLen; omega) (by omega) (by omega) ?_; intro v4 w4 hown4 hgrow hnil hat; have HO4 : Hid (OwnS w4 (w.heap.size + 1) v4 (acc ++ ns)) := (by unfold OwnS strs; rw [List.length_append, List.map_append]; exact hown4); have HG4 : Hid (w3.grownBy w4 ov.ownBlock) := hgrow; clear hown4 hgrow hnil hat))
            have hb4 : Below w.heap.size w w4 := Below.grown (bel hb hb3) HG4.out (by omega) (fun k hk => by have := (HOB.out k hk).1; omega)
            have hx4 : w4.heap[w.heap.size]? = some (.cells #[.int .i64 t.kind, .string t.name, .int .u32 t.num, .int .i64 t.int_, .string t.key, .slice (some ⟨b1, o1, none⟩) n c, .int .i64 t.at_] 26) := by
              rw [HG4.out.block w.heap.size (by omega) (fun e => by have := (HOB.out _ e.symm).1; omega), hb3.block _ (hlt HX.out)]; exact HX.out
            have HF : Hid (Below w.heap.size w w4 ∧ w4.heap[w.heap.size]? = some (.cells #[.int .i64 t.kind, .string t.name, .int .u32 t.num, .int .i64 t.int_, .string t.key, .slice (some ⟨b1, o1, none⟩) n c, .int .i64 t.at_] 26)) := ⟨hb4, hx4⟩
            clear hb4 hx4
            go_wp2
            go_roundw
            case rel => exact ⟨HF.out.1, j + 1, _, rfl, by omega, by go_num, HF.out.2, by rw [HNX.out]; exact ⟨HO4.out, fun e => absurd (List.append_eq_nil_iff.1 e).2 HNS.out⟩⟩
            case measure => simp [intOf]; omega
        · have : j = n := by omega
          subst this
          have e : t.args.take j = t.args := List.take_of_length_le (by rw [HN.out]; exact Nat.le_refl _)
          rw [e] at hS
          clear HIH HK hx
          go_wp2
          go_ret
          exact ⟨_, rfl, hS.out.1.mono (by omega), hS.out.2, hb⟩

    · rw [if_neg (by simpa using hk1)]
      have zk : (t.kind == 1) = false := by simpa using hk1
      clear hk1
      go_enter Try.func13, Try.ntmps13
      go_wp2
      go_loopw [3, 4] (fun lv iv wr => Below w.heap.size w wr ∧ ∃ (j : Nat) (ov : Value), ov = lv ∧ j ≤ n ∧ iv = .int .i64 j ∧ wr.heap[w.heap.size]? = some (.cells #[.int .i64 t.kind, .string t.name, .int .u32 t.num, .int .i64 t.int_, .string t.key, .slice p n c, .int .i64 t.at_] 26) ∧ Hid (OwnS wr (w.heap.size + 1) ov (([] : List ByteArray) ++ namesL (t.args.take j)) ∧ (([] : List ByteArray) ++ namesL (t.args.take j) = [] → ov = .slice none 0 0))) (fun _ iv _ => n - (intOf iv).toNat)
      case atStart => exact ⟨HBX.out.1, 0, _, rfl, Nat.zero_le _, rfl, HBX.out.2, by rw [List.take_zero, namesL_nil, List.append_nil]; exact ⟨ownS_nil _ _, fun _ => rfl⟩⟩
      case round =>
        obtain ⟨hb, j, ov, rfl, hj, rfl, hx, hS⟩ := hrel
        have h5 := cell5 hx
        have HX : Hid (wr.heap[w.heap.size]? = some (.cells #[.int .i64 t.kind, .string t.name, .int .u32 t.num, .int .i64 t.int_, .string t.key, .slice p n c, .int .i64 t.at_] 26)) := hx
        by_cases hlt0 : j < n
        · have hll : j < t.args.length := by rw [HN.out]; exact hlt0
          obtain ⟨b1, o1, q1, d1, rfl, ⟨x0, x1, x2, x3, x4, x5, x6⟩, kx⟩ := kid_at HK.out hb hll
          have hnl : (([] : List ByteArray) ++ namesL (t.args.take (j + 1))).length ≤ 9001 := by
            have h1 := namesL_le (t.args.take (j + 1))
            have h2 := cntL_take_le t.args (j + 1)
            have h3 : cnt t = 1 + cntL t.args := rfl
            rw [List.length_append]
            simp
            omega
          have hnx : ([] : List ByteArray) ++ namesL (t.args.take (j + 1)) = (([] : List ByteArray) ++ namesL (t.args.take j)) ++ names t.args[j] := by rw [namesL_take hll, List.append_assoc]
          rw [hnx] at hnl
          obtain ⟨acc, hacc⟩ : ∃ acc, ([] : List ByteArray) ++ namesL (t.args.take j) = acc := ⟨_, rfl⟩
          obtain ⟨ns, hns⟩ : ∃ ns, names t.args[j] = ns := ⟨_, rfl⟩
          rw [hacc, hns] at hnl hnx
          rw [hacc] at hS
          have HNX : Hid (([] : List ByteArray) ++ namesL (t.args.take (j + 1)) = acc ++ ns) := hnx
          rw [List.length_append] at hnl
          have HW : Hid (Calls Try.prog 13 #[.agg #[.int .i64 t.args[j].kind, .string t.args[j].name, .int .u32 t.args[j].num, .int .i64 t.args[j].int_, .string t.args[j].key, .slice q1 t.args[j].args.length d1, .int .i64 t.args[j].at_]] wr fun e v' => ∃ v, e = .returned v ∧ OwnS v' wr.heap.size v ns ∧ (ns = [] → v = .slice none 0 0) ∧ Below wr.heap.size wr v') := by
            have := HIH.out t.args[j] q1 d1 wr (by have := dep_get hll; unfold dep at hd ⊢; unfold dep at this; omega) (by have := cnt_get hll; unfold cnt at hc; omega) kx
            rw [hns] at this
            exact this
          have i1 : (0 : Int) ≤ (j : Int) := by omega
          have i2 : (j : Int) < (n : Int) := by omega
          have hob : ∀ k, ov.ownBlock = some k → w.heap.size + 1 ≤ k ∧ k < wr.heap.size := fun k hk => hS.out.1.lt k hk
          have HOB : Hid (∀ k, ov.ownBlock = some k → w.heap.size + 1 ≤ k ∧ k < wr.heap.size) := hob
          have hsz := hlt hx
          clear kx HIH HK hnx hns hacc hx hob
          by_cases hns0 : ns = []
          · have HNS : Hid (ns = []) := hns0
            clear hns0
            go_wp2_with (first
              | (go_at_call 13; (with_reducible refine HW.out.mono ?_); rintro e w3 ⟨v3, rfl, ho3, hz3, hb3⟩; obtain rfl := hz3 HNS.out; have HO3 : Hid (OwnS w3 (w.heap.size + 1) ov acc) := hS.out.1.below hb3; clear ho3 hz3)
              | (at_builtin; refine wpList_append_own_none rfl _ _ 30 rfl (w.heap.size + 1) 9 i0 1 Try.underlying30 hi0 ov acc.length (strs acc) rfl HO3.out rfl ?_))
            go_roundw
            case rel => exact ⟨bel hb hb3, j + 1, _, rfl, by omega, by go_num, by rw [hb3.block _ (hlt HX.out)]; exact HX.out, by rw [HNX.out, HNS.out, List.append_nil]; exact ⟨HO3.out, hS.out.2⟩⟩
            case measure => simp [intOf]; omega
          · have hnp : 0 < ns.length := by cases ns with | nil => exact absurd rfl hns0 | cons a b => simp
            have HNS : Hid (¬ ns = []) := hns0
            clear hns0
            go_wp2_with (first
              | (go_at_call 13; (with_reducible refine HW.out.mono ?_); rintro e w3 ⟨v3, rfl, ho3, hz3, hb3⟩; obtain ⟨g3, c3, rfl, hg3, hg4⟩ := World.ownsRow.form ho3 hnp; have HO3 : Hid (OwnS w3 (w.heap.size + 1) ov acc) := hS.out.1.below hb3; have HN3 : Hid (∀ j u, (strs ns)[j]? = some u → w3.cell? ((⟨g3, 0, none⟩ : Addr).add j) = some u) := ho3.cells (g := g3) rfl; have hs3 := hb3.size; clear ho3 hz3)
              | (at_builtin; refine wpList_append_own_at _ rfl _ _ 30 rfl (w.heap.size + 1) 9 i0 _ 1 16 Try.underlying30 hi0 hz0 hz1 hz2 rfl (by decide) ov acc.length (strs acc) rfl HO3.out ⟨g3, 0, none⟩ ns.length c3 (strs ns) rfl (by simp [strs]) HN3.out (by intro u hu; obtain ⟨x, -, rfl⟩ := List.mem_map.1 hu; rfl) (by unfold maxLen; omega) (by omega) (by omega) ?_; intro v4 w4 hown4 hgrow hnil hat; have HO4 : Hid (OwnS w4 (w.heap.size + 1) v4 (acc ++ ns)) := (by unfold OwnS strs; rw [List.length_append, List.map_append]; exact hown4); have HG4 : Hid (w3.grownBy w4 ov.ownBlock) := hgrow; clear hown4 hgrow hnil hat))
            have hb4 : Below w.heap.size w w4 := Below.grown (bel hb hb3) HG4.out (by omega) (fun k hk => by have := (HOB.out k hk).1; omega)
            have hx4 : w4.heap[w.heap.size]? = some (.cells #[.int .i64 t.kind, .string t.name, .int .u32 t.num, .int .i64 t.int_, .string t.key, .slice (some ⟨b1, o1, none⟩) n c, .int .i64 t.at_] 26) := by
              rw [HG4.out.block w.heap.size (by omega) (fun e => by have := (HOB.out _ e.symm).1; omega), hb3.block _ (hlt HX.out)]; exact HX.out
            have HF : Hid (Below w.heap.size w w4 ∧ w4.heap[w.heap.size]? = some (.cells #[.int .i64 t.kind, .string t.name, .int .u32 t.num, .int .i64 t.int_, .string t.key, .slice (some ⟨b1, o1, none⟩) n c, .int .i64 t.at_] 26)) := ⟨hb4, hx4⟩
            clear hb4 hx4
            go_wp2
            go_roundw
            case rel => exact ⟨HF.out.1, j + 1, _, rfl, by omega, by go_num, HF.out.2, by rw [HNX.out]; exact ⟨HO4.out, fun e => absurd (List.append_eq_nil_iff.1 e).2 HNS.out⟩⟩
            case measure => simp [intOf]; omega
        · have : j = n := by omega
          subst this
          have e : t.args.take j = t.args := List.take_of_length_le (by rw [HN.out]; exact Nat.le_refl _)
          rw [e] at hS
          clear HIH HK hx
          go_wp2
          go_ret
          exact ⟨_, rfl, hS.out.1.mono (by omega), hS.out.2, hb⟩

theorem rowS_cell {w : World} {B : Nat} {v : Value} {l : List ByteArray} (h : OwnS w B v l) : ∃ p c, v = .slice p l.length c ∧ (l = [] ∨ ∃ b, p = some ⟨b, 0, none⟩ ∧ ∀ i (hi : i < l.length), w.cell? ⟨b, i, none⟩ = some (.string l[i])) := by
  obtain ⟨hl, ho⟩ := h
  rcases ho with ⟨hv, hn⟩ | ⟨g, cap, cur, hv, hB, hg, hc1, hc2, hsz, htk⟩
  · exact ⟨none, 0, by rw [hn]; exact hv, .inl (List.eq_nil_of_length_eq_zero hn)⟩
  · refine ⟨some ⟨g, 0, none⟩, cap, hv, .inr ⟨g, rfl, fun i hi => ?_⟩⟩
    have h1 : (strs l)[i]? = some (.string l[i]) := by unfold strs; rw [List.getElem?_map, List.getElem?_eq_getElem hi]; rfl
    rw [← htk, List.getElem?_take_of_lt (by omega)] at h1
    rw [cell_heap hg]
    simpa using h1
/-- A slice that reads as these texts. -/
def Txt (w : World) (v : Value) (l : List ByteArray) : Prop := ∃ p c, v = .slice p l.length c ∧ (l = [] ∨ ∃ b, p = some ⟨b, 0, none⟩ ∧ ∀ i (hi : i < l.length), w.cell? ⟨b, i, none⟩ = some (.string l[i]))
theorem Txt.below {w w' : World} {v : Value} {l : List ByteArray} (h : Txt w v l) (k : Below w.heap.size w w') : Txt w' v l := by
  obtain ⟨p, c, hv, h⟩ := h
  refine ⟨p, c, hv, ?_⟩
  rcases h with h | ⟨b, hp, h⟩
  · exact .inl h
  · exact .inr ⟨b, hp, fun i hi => (k.cell (mcell_lt (h i hi))).trans (h i hi)⟩

set_option maxRecDepth 100000 in
set_option maxHeartbeats 1000000 in
theorem sameTexts_any (u v : Value) (l : List ByteArray) (hn : l.length ≤ 9001) (w : World) (hu : Txt w u l) (hv : Txt w v l) :
    Calls Try.prog 12 #[u, v] w fun e w' => e = .returned (.bool true) ∧ Below w.heap.size w w' := by
  obtain ⟨p, c, rfl, hu⟩ := hu
  obtain ⟨q, d, rfl, hv⟩ := hv
  obtain ⟨n, hln⟩ : ∃ n, l.length = n := ⟨_, rfl⟩
  rw [hln] at hn ⊢
  have HN : Hid (l.length = n) := hln
  clear hln
  go_enter Try.func12, Try.ntmps12
  go_wp2
  go_loopw [5] (fun iv wr => Below w.heap.size w wr ∧ ∃ i : Nat, i ≤ n ∧ iv = .int .i64 i) (fun iv _ => n - (intOf iv).toNat)
  case atStart => exact ⟨bel0 w, 0, Nat.zero_le _, rfl⟩
  case round =>
    obtain ⟨hb, i, hi, rfl⟩ := hrel
    by_cases hlt0 : i < n
    · have hll : i < l.length := by rw [HN.out]; exact hlt0
      rcases hu with hu | ⟨b, rfl, hu⟩
      · rw [hu] at hll; exact absurd hll (Nat.not_lt_zero _)
      rcases hv with hv | ⟨b', rfl, hv⟩
      · rw [hv] at hll; exact absurd hll (Nat.not_lt_zero _)
      have x0 := (hb.cell (mcell_lt (hu i hll))).trans (hu i hll)
      have y0 := (hb.cell (mcell_lt (hv i hll))).trans (hv i hll)
      have i1 : (0 : Int) ≤ (i : Int) := by omega
      have i2 : (i : Int) < (n : Int) := by omega
      clear hu hv
      go_wp2
      go_quiet (fail)
      go_wp2
      go_roundw
      case rel => exact ⟨bel hb (bel_dn _ _), i + 1, by omega, by go_num⟩
      case measure => simp [intOf]; omega
    · have : i = n := by omega
      subst this
      clear hu hv
      go_wp2
      go_ret
      exact ⟨rfl, hb⟩

end Go.Proofs.Ytpidjmgifglmiab
