import Derived.Test.YtmpfoajpafglgaaDoorSignFirst
/- Package sign: Find and Check. -/
namespace Go.Proofs.YtmpfoajpafglgaaDoor
open Go.RowKit Go.Maps Go.WideMaps
set_option linter.unusedVariables false
set_option linter.unusedSimpArgs false

set_option maxRecDepth 100000 in
set_option maxHeartbeats 1000000 in
theorem sFind_any (v : Value) (l : List Par) (hl : l.length ≤ 140737488351232) (hM : ∀ p ∈ l, p.name.size ≤ 140737488351232) (s : ByteArray) (hs : s.size ≤ 140737488351232) (w : World) (hr : Rd w v l) :
    Calls Tryd.prog 9 #[v, .string s] w fun e w' => e = .returned (.tuple #[.int .i64 ((findP s l).getD 0 : Nat), .bool (findP s l).isSome]) ∧ Below w.heap.size w w' := by
  have HK : Hid (Calls Tryd.prog 25 #[v] w fun e w' => ∃ D, e = .returned (.map (some w.heap.size)) ∧ MapAt w' w.heap.size l.length D ∧ Firsts l D ∧ Below w.heap.size w w') := firsts_any v l hl hM w hr
  have hkey : keyOf Tryd.prog 9 (.string s) = some (keyL s) := keyOf_string_mk Tryd.underlying9 (by unfold maxLen; omega)
  go_enter Tryd.func9, Tryd.ntmps9
  go_wp2_with (first
    | (go_at_call 25; refine HK.out.mono ?_; rintro e w1 ⟨D, rfl, hm, hf, hb⟩; have HM1 : Hid (MapAt w1 w.heap.size l.length D) := hm; have HF : Hid (Firsts l D) := hf; clear hm hf)
    | (at_lookup; refine wpList_lookup_own_ok_int _ rfl _ _ 49 rfl 9 3 .i64 lawK Tryd.underlying49 Tryd.underlying3 (zeroI _) w.heap.size l.length D rfl HM1.out _ _ rfl hkey ?_; intro c hat hwc; have HC : Hid (D.atKey (keyL s) (.lit (.int .i64 0)) = .lit (.int .i64 c)) := hat; clear hat hwc))
  go_ret2
  refine ⟨?_, hb⟩
  have h1 := HF.out.has s
  have h2 : (((findP s l).getD 0 : Nat) : Int) = c := by
    have hc := HC.out
    cases e : findP s l with
    | some i =>
      rw [HF.out.val s i _ e] at hc
      simpa using hc
    | none =>
      rw [atKey_of_not_has (by rw [h1, e]; rfl)] at hc
      simpa using hc
  rw [h1, h2]
  rfl

set_option maxRecDepth 100000 in
set_option maxHeartbeats 1000000 in
theorem sCheck_any (v : Value) (l : List Par) (hl : l.length ≤ 140737488351232) (hM : ∀ p ∈ l, p.name.size ≤ 140737488351232) (w : World) (hr : Rd w v l) :
    Calls Tryd.prog 11 #[v] w fun e w' => e = .returned (.int .i64 (checkP l)) ∧ Below w.heap.size w w' := by
  have K1 := contains_any v l hl hM w hr
  have K2 := fun w h => firsts_any v l hl hM w h
  have K3 := fun w h => sTotal_any v l hl hM w h
  have HR : Hid (Rd w v l) := hr
  have htb := tot_bounds l
  unfold checkP
  obtain ⟨p, c, rfl, _⟩ := hr
  obtain ⟨n, hn⟩ : ∃ n, l.length = n := ⟨_, rfl⟩
  obtain ⟨N, hN⟩ : ∃ N, l.all mayP = N := ⟨_, rfl⟩
  obtain ⟨T, hT⟩ : ∃ T, totP l = T := ⟨_, rfl⟩
  rw [hn] at K1 K2 K3 HR hl htb ⊢
  rw [hN] at K1 ⊢
  rw [hT] at htb ⊢
  simp only [hT] at K3
  have HK1 : Hid (Calls Tryd.prog 26 #[.slice p n c, .func (.func 27) #[] #[]] w fun e w' => e = .returned (.bool (!N)) ∧ Below w.heap.size w w') := K1
  have HK2 : Hid (∀ w, Rd w (.slice p n c) l → Calls Tryd.prog 25 #[.slice p n c] w fun e w' => ∃ D, e = .returned (.map (some w.heap.size)) ∧ MapAt w' w.heap.size n D ∧ Firsts l D ∧ Below w.heap.size w w') := K2
  have HK3 : Hid (∀ w, Rd w (.slice p n c) l → Calls Tryd.prog 13 #[.slice p n c] w fun e w' => e = .returned (.int .i64 T) ∧ Below w.heap.size w w') := K3
  have HN : Hid (l.length = n) := hn
  clear K1 K2 K3 hN hT hM hn
  by_cases h64 : n > 64
  · have h64' : (64 : Int) < (n : Int) := by omega
    rw [if_pos h64]
    clear h64
    go_enter Tryd.func11, Tryd.ntmps11
    go_wp2
    all_goals (go_ret; exact ⟨rfl, bel0 w⟩)
  · have h64' : ¬ (64 : Int) < (n : Int) := by omega
    rw [if_neg h64]
    clear h64
    cases N
    · rw [if_pos rfl]
      go_enter Tryd.func11, Tryd.ntmps11
      go_wp2_with (go_at_call 26; refine HK1.out.mono ?_; rintro e w1 ⟨rfl, hb1⟩)
      all_goals (go_ret; exact ⟨rfl, hb1⟩)
    · rw [if_neg (by decide)]
      cases htw : twiceP l
      · rw [if_neg (by decide)]
        have HW : Hid (twiceP l = false) := htw
        clear htw
        by_cases h3 : T > 65536
        · rw [if_pos h3]
          have h3' : (65536 : Int) < T := by omega
          go_enter Tryd.func11, Tryd.ntmps11
          go_wp2_with (first
            | (go_at_call 26; refine HK1.out.mono ?_; rintro e w1 ⟨rfl, hb1⟩)
            | (go_at_call 25; refine (HK2.out _ (HR.out.below hb1)).mono ?_; rintro e w2 ⟨D, rfl, hm, hf, hb2⟩; have HM1 : Hid (MapAt w2 w1.heap.size n D) := hm; have hs : Maps.size D = n := (by rw [hf.no HW.out, HN.out]); have hs2 : ¬ ((Maps.size D : Int) < (n : Int)) := (by omega); have HS : Hid (¬ ((Maps.size D : Int) < (n : Int))) := hs2; clear hm hf hs)
            | (have _t := HM1; at_len; refine wpList_len_own _ rfl _ 49 rfl 9 3 Tryd.underlying49 _ w1.heap.size n D rfl HM1.out ?_; clear HM1)
            | (go_at_call 13; refine (HK3.out _ (HR.out.below (bel hb1 hb2))).mono ?_; rintro e w3 ⟨rfl, hb3⟩))
          all_goals (go_ret; exact ⟨rfl, bel (bel hb1 hb2) hb3⟩)
        · rw [if_neg h3]
          have h3' : ¬ (65536 : Int) < T := by omega
          go_enter Tryd.func11, Tryd.ntmps11
          go_wp2_with (first
            | (go_at_call 26; refine HK1.out.mono ?_; rintro e w1 ⟨rfl, hb1⟩)
            | (go_at_call 25; refine (HK2.out _ (HR.out.below hb1)).mono ?_; rintro e w2 ⟨D, rfl, hm, hf, hb2⟩; have HM1 : Hid (MapAt w2 w1.heap.size n D) := hm; have hs : Maps.size D = n := (by rw [hf.no HW.out, HN.out]); have hs2 : ¬ ((Maps.size D : Int) < (n : Int)) := (by omega); have HS : Hid (¬ ((Maps.size D : Int) < (n : Int))) := hs2; clear hm hf hs)
            | (have _t := HM1; at_len; refine wpList_len_own _ rfl _ 49 rfl 9 3 Tryd.underlying49 _ w1.heap.size n D rfl HM1.out ?_; clear HM1)
            | (go_at_call 13; refine (HK3.out _ (HR.out.below (bel hb1 hb2))).mono ?_; rintro e w3 ⟨rfl, hb3⟩))
          all_goals (go_ret; exact ⟨rfl, bel (bel hb1 hb2) hb3⟩)
      · rw [if_pos rfl]
        have HW : Hid (twiceP l = true) := htw
        clear htw
        go_enter Tryd.func11, Tryd.ntmps11
        go_wp2_with (first
          | (go_at_call 26; refine HK1.out.mono ?_; rintro e w1 ⟨rfl, hb1⟩)
          | (go_at_call 25; refine (HK2.out _ (HR.out.below hb1)).mono ?_; rintro e w2 ⟨D, rfl, hm, hf, hb2⟩; have HM1 : Hid (MapAt w2 w1.heap.size n D) := hm; have hs : Maps.size D < n := (by have := hf.yes HW.out; rw [HN.out] at this; exact this); have hs2 : (Maps.size D : Int) < (n : Int) := (by omega); clear hm hf hs)
          | (have _t := HM1; at_len; refine wpList_len_own _ rfl _ 49 rfl 9 3 Tryd.underlying49 _ w1.heap.size n D rfl HM1.out ?_; clear HM1))
        all_goals (go_ret; exact ⟨rfl, bel hb1 hb2⟩)

end Go.Proofs.YtmpfoajpafglgaaDoor
