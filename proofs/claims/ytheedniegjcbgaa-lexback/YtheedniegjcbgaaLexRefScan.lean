import Derived.Test.YtheedniegjcbgaaLexRefTok
/- The reference's Scan. -/
namespace Go.Proofs.Ytheedniegjcbgaa
open Go.RowKit
set_option linter.unusedVariables false
set_option linter.unusedSimpArgs false

theorem news2 (w : World) (o : Obj) (cs : Array Value) (t : TypeId) : ∀ j u, cs.toList[j]? = some u → ((w.alloc o).alloc (.cells cs t)).cell? ((⟨w.heap.size + 1, 0, none⟩ : Addr).add j) = some u := by
  have h := World.news_of_block (heap_alloc_new (w.alloc o) (.cells cs t))
  have e : (w.alloc o).heap.size = w.heap.size + 1 := by simp
  rw [e] at h
  exact h
theorem rskip_at (s : ByteArray) (hs : s.size ≤ 65536) (x : Int) (i : Nat) (h : x = (i : Int)) (hi : i ≤ s.size) (w : World) :
    Calls Try.prog 20 #[.string s, .int .i64 x] w fun e w' => e = .returned (.int .i64 (skN s i)) ∧ w' = w ∧ (bs s).drop (skN s i) = skp false ((bs s).drop i) ∧ skN s i ≤ s.size := by
  subst h
  exact rskip_any s hs i hi w

set_option maxRecDepth 100000 in
set_option maxHeartbeats 4000000 in
theorem rscan_any (s : ByteArray) (hm : s.size ≤ maxLen) (w : World) :
    Calls Try.prog 10 #[.string s] w fun e w' => ∃ v, e = .returned (.tuple #[v, .int .i64 (scanP (bs s)).err, .int .i64 ((scanP (bs s)).place : Int)]) ∧ Own w' w.heap.size v (scanP (bs s)).toks ∧ Below w.heap.size w w' := by
  obtain ⟨i0, hi0, hz0, hz1, hz2⟩ := info_parts info_Token
  unfold maxLen at hm
  by_cases hlong : s.size > 65536
  · rw [scan_long (bs s) (by rw [bs_length]; exact hlong)]
    have i1 : (65536 : Int) < (s.size : Int) := by omega
    go_enter Try.func10, Try.ntmps10
    go_wp2
    go_ret3
    exact ⟨_, rfl, own_nil _ _, bel0 w⟩
  · have hs : s.size ≤ 65536 := by omega
    have i1 : (s.size : Int) ≤ 65536 := by omega
    have hst := soFar_start (bs s)
    have HST : Hid (SoFar (bs s) [] (skp false (bs s))) := hst
    clear hst
    go_enter Try.func10, Try.ntmps10
    go_wp2_with (go_at_call 20; refine (rskip_any s hs 0 (by omega) _).mono ?_; rintro e w1 ⟨rfl, rfl, hd0, hle0⟩; have HD0 : Hid ((bs s).drop (skN s 0) = skp false ((bs s).drop 0)) := hd0; clear hd0)
    rename World => w
    obtain ⟨k0, hk0⟩ : ∃ k, skN s 0 = k := ⟨_, rfl⟩
    rw [hk0] at HD0 hle0 ⊢
    clear hk0
    go_loopw [5, 6] (fun lv av wr => Below w.heap.size w wr ∧ ∃ (j : Nat) (acc : List Tok) (ov : Value), ov = lv ∧ j ≤ s.size ∧ av = .int .i64 j ∧ acc.length ≤ j ∧ Own wr w.heap.size ov acc ∧ SoFar (bs s) acc ((bs s).drop j)) (fun _ av _ => s.size - (intOf av).toNat)
    case atStart => exact ⟨bel0 w, k0, [], _, rfl, hle0, rfl, Nat.zero_le _, own_nil _ _, by rw [HD0.out]; exact HST.out⟩
    case round =>
      obtain ⟨hb, j, acc, ov, rfl, hj, rfl, hac, hown, hsf⟩ := hrel
      have HS : Hid (SoFar (bs s) acc ((bs s).drop j)) := hsf
      have HO : Hid (Own wr w.heap.size ov acc) := hown
      clear hsf hown HST HD0
      by_cases hlt : j < s.size
      · have j1 : (j : Int) < (s.size : Int) := by omega
        have hne : (bs s).drop j ≠ [] := by rw [drop_at s j hlt]; simp
        have T1 := rtoken_any s hs j hlt wr
        have ok := okay_tok _ hne
        have bd := tok_bounds _ hne
        obtain ⟨t, ht⟩ : ∃ t, tokL ((bs s).drop j) = t := ⟨_, rfl⟩
        rw [ht] at ok bd
        have HT : Hid (tokL ((bs s).drop j) = t) := ht
        obtain ⟨K, L, E⟩ := t
        by_cases hE : E = 0
        · subst hE
          obtain ⟨o1, o2, o3, o4, o5⟩ := ok rfl
          have o2' : L ≤ s.size - j := by rw [← drop_len]; exact o2
          have hnx := soFar_tok HS.out hne (by rw [HT.out])
          rw [HT.out, List.drop_drop] at hnx
          rw [rtok_ok ht] at T1
          obtain ⟨X, hX⟩ : ∃ X : Bs, textOf K (((bs s).drop j).take L) = X := ⟨_, rfl⟩
          rw [hX] at T1
          simp only at hnx
          rw [hX] at hnx
          have HN : Hid (SoFar (bs s) (acc ++ [⟨K, X, (bs s).length - ((bs s).drop j).length⟩]) (skp false ((bs s).drop (j + L)))) := hnx
          unfold aggT at T1
          have H1 : Hid (Calls Try.prog 21 #[.string s, .int .i64 (j : Int)] wr fun e w' => e = .returned (.tuple #[.agg #[.int .i64 K, .string ⟨X.toArray⟩, .int .i64 (j : Int)], .int .i64 ((j : Int) + L), .int .i64 0]) ∧ Below wr.heap.size wr w') := T1
          clear T1 hnx hX ok o2 HS ht
          have szr := hb.size
          go_wp2_with (first
            | ((with_reducible refine H1.out.mono ?_); rintro e w2 ⟨rfl, hb2⟩; have HO2 : Hid (Own w2 w.heap.size ov acc) := HO.out.below hb2; have sz2 := hb2.size)
            | (at_builtin; refine wpList_append_own_at _ rfl _ _ 22 rfl w.heap.size 34 i0 _ 3 32 Try.underlying22 hi0 hz0 hz1 hz2 rfl (by decide) ov acc.length (cellsOf acc) rfl (World.ownsRow.alloc (World.ownsRow.alloc HO2.out _) _) ⟨w2.heap.size + 1, 0, none⟩ 1 1 [.int .i64 K, .string ⟨X.toArray⟩, .int .i64 (j : Int)] rfl rfl (news2 w2 _ #[.int .i64 K, .string ⟨X.toArray⟩, .int .i64 (j : Int)] 34) (by simp [Value.oneCell']) (by unfold maxLen; omega) (by omega) (by simp; omega) ?_; intro v' w3 hown3 hgrow hnil hat; have HO3 : Hid (w3.ownsRow w.heap.size 34 3 v' (acc.length + 1) (cellsOf acc ++ [.int .i64 K, .string ⟨X.toArray⟩, .int .i64 (j : Int)]) ∧ ((w2.alloc (.cells #[.int .i64 K, .string ⟨X.toArray⟩, .int .i64 (j : Int)] 34)).alloc (.cells #[.int .i64 K, .string ⟨X.toArray⟩, .int .i64 (j : Int)] 34)).grownBy w3 ov.ownBlock) := ⟨hown3, hgrow⟩; clear hown3 hgrow hnil hat)
            | (go_at_call 20; refine (rskip_at s hs _ (j + L) (by omega) (by omega) _).mono ?_; rintro e w4 ⟨rfl, rfl, hd4, hle4⟩; have HD4 : Hid ((bs s).drop (skN s (j + L)) = skp false ((bs s).drop (j + L))) := hd4; clear hd4))
          go_roundw
          case rel =>
            obtain ⟨ho3, hgrow⟩ := HO3.out
            have hob := HO2.out.lt
            have h4 := skN_ge s (j + L) (by omega)
            refine ⟨Below.grown (((bel hb hb2).alloc (by omega) _).alloc (by simp; omega) _) hgrow (by simp; omega) (fun q e => (hob q e).1), skN s (j + L), acc ++ [⟨K, X, j⟩], _, rfl, hle4, rfl, by simp; omega, ?_, ?_⟩
            · unfold Own
              rw [cellsOf_snoc, List.length_append]
              exact ho3
            · rw [HD4.out]
              have := HN.out
              rw [drop_len, bs_length, show s.size - (s.size - j) = j by omega] at this
              exact this
          case measure =>
            have h4 := skN_ge s (j + L) (by omega)
            simp [intOf]
            omega
        · have hE1 : (E == 0) = false := by simpa using hE
          have hE2 : (E != 0) = true := by simpa using hE
          rw [rtok_err ht hE] at T1
          have H1 : Hid (Calls Try.prog 21 #[.string s, .int .i64 (j : Int)] wr fun e w' => e = .returned (.tuple #[.agg #[.int .i64 0, .string ⟨#[]⟩, .int .i64 0], .int .i64 0, .int .i64 E]) ∧ Below wr.heap.size wr w') := T1
          clear T1 ok ht
          have HE : Hid (E ≠ 0) := hE
          clear hE
          go_wp2_with ((with_reducible refine H1.out.mono ?_); rintro e w1 ⟨rfl, hb1⟩)
          go_ret3
          have se := soFar_err HS.out hne (by rw [HT.out]; exact HE.out)
          rw [HT.out, drop_len, bs_length] at se
          rw [scan_err (by rw [bs_length]; exact hs) (by rw [se.1]; exact HE.out), se.1, se.2]
          exact ⟨_, by congr 4; simp; omega, own_nil _ _, bel (bel hb hb1) (bel_alloc _ _)⟩
      · have : j = s.size := by omega
        subst this
        have se := soFar_end (by have := HS.out; rw [drop_end s _ (Nat.le_refl _)] at this; exact this)
        have hfin := scan_ok (l := bs s) (by rw [bs_length]; exact hs) se.2.1
        rw [se.1, bs_length] at hfin
        have HF : Hid (scanP (bs s) = ⟨acc ++ [⟨0, [], s.size⟩], 0, 0⟩) := hfin
        clear se hfin
        have szr := hb.size
        go_wp2_with (first
          | (at_builtin; refine wpList_append_own_at _ rfl _ _ 22 rfl w.heap.size 34 i0 _ 3 32 Try.underlying22 hi0 hz0 hz1 hz2 rfl (by decide) ov acc.length (cellsOf acc) rfl (World.ownsRow.alloc HO.out _) ⟨wr.heap.size, 0, none⟩ 1 1 [.int .i64 0, .string ⟨#[]⟩, .int .i64 (s.size : Int)] rfl rfl (World.news_of_block (cs := #[.int .i64 0, .string ⟨#[]⟩, .int .i64 (s.size : Int)]) (t := 34) (fr := (0, 0)) (heap_alloc_new wr _)) (by simp [Value.oneCell']) (by unfold maxLen; omega) (by omega) (by simp; omega) ?_; intro v' w3 hown3 hgrow hnil hat; have HO3 : Hid (w3.ownsRow w.heap.size 34 3 v' (acc.length + 1) (cellsOf acc ++ [.int .i64 0, .string ⟨#[]⟩, .int .i64 (s.size : Int)]) ∧ (wr.alloc (.cells #[.int .i64 0, .string ⟨#[]⟩, .int .i64 (s.size : Int)] 34)).grownBy w3 ov.ownBlock) := ⟨hown3, hgrow⟩; clear hown3 hgrow hnil hat))
        go_ret3
        obtain ⟨ho3, hgrow⟩ := HO3.out
        have hob := HO.out.lt
        rw [HF.out]
        refine ⟨_, rfl, ?_, Below.grown (hb.alloc (by omega) _) hgrow (by simp; omega) (fun q e => (hob q e).1)⟩
        unfold Own
        rw [cellsOf_snoc, List.length_append]
        exact ho3

end Go.Proofs.Ytheedniegjcbgaa
