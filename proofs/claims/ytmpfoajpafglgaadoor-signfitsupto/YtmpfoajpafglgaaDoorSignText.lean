import Derived.Test.YtmpfoajpafglgaaDoorSignCheck
import Derived.Test.YtmpfoajpafglgaaDoorSignCodeP
import Derived.Test.YtmpfoajpafglgaaDoorSignShelf
import Derived.WalkSmall
/- Package sign: a line read as a parameter. -/
namespace Go.Proofs.YtmpfoajpafglgaaDoor
open Go.RowKit
set_option linter.unusedVariables false
set_option linter.unusedSimpArgs false

theorem g_tab : Tryd.prog.globalNamed "internal/strconv.uint64pow10" = some 1 := by kernel_rfl

/-- What package-level variables of the library hold. -/
structure Laid (w : World) : Prop where
  mx : ∃ m, w.cell? ⟨0, 0, none⟩ = some (.int .i64 m)
  tab : Lib.TabIs Tryd.prog w "internal/strconv.uint64pow10" .u64 Lib.pow10Tab
  syn : ∃ te pe, w.cell? ⟨4, 0, none⟩ = some (.iface te pe)
  rng : ∃ te pe, w.cell? ⟨5, 0, none⟩ = some (.iface te pe)

theorem Laid.below {w w' : World} (h : Laid w) (k : Below w.heap.size w w') : Laid w' := by
  refine ⟨?_, ?_, ?_, ?_⟩
  · obtain ⟨m, hm⟩ := h.mx
    exact ⟨m, keepc k hm⟩
  · exact var?_below k g_tab (mcell_lt (Lib.TabIs.cell h.tab g_tab 0 (by decide))) h.tab
  · obtain ⟨a, b, hm⟩ := h.syn
    exact ⟨a, b, keepc k hm⟩
  · obtain ⟨a, b, hm⟩ := h.rng
    exact ⟨a, b, keepc k hm⟩

theorem bel_grow (w : World) (os : Array Obj) : Below w.heap.size w (Go.Sort.grow w os) := by
  refine ⟨rfl, rfl, rfl, by simp [Go.Sort.grow], fun j hj => ?_⟩
  simp [Go.Sort.grow, Array.getElem?_append_left hj]

theorem atoi_ok (s : ByteArray) (hs : s.size ≤ 65536) (n : Int) (h : Lib.atoiAll (bs s) = .ok n) (w : World) :
    Calls Tryd.prog 57 #[.string s] w fun e w' => e = .returned (.tuple #[.int .i64 n, .nilIface]) ∧ Below w.heap.size w w' := by
  refine (sh_strconv_Atoi_ok s (by omega) n h w).mono fun e w' ⟨he, hw⟩ => ⟨he, ?_⟩
  rcases hw with rfl | ⟨t, rfl⟩
  · exact bel0 _
  · exact Lib.bytesWorld_below _ _ _
theorem atoi_bad (s : ByteArray) (hs : s.size ≤ 65536) (h : ∀ n, Lib.atoiAll (bs s) ≠ .ok n) (w : World) (hL : Laid w) :
    Calls Tryd.prog 57 #[.string s] w fun e w' => ∃ x N, e = .returned (.tuple #[.int .i64 x, .iface 100 (.pointer (some ⟨N, 0, none⟩))]) ∧ Below w.heap.size w w' := by
  cases e : Lib.atoiAll (bs s) with
  | ok n => exact absurd e (h n)
  | «syntax» =>
    obtain ⟨a, b, hc⟩ := hL.syn
    exact (sh_strconv_Atoi_syntax s (by omega) e _ w hc (.inr ⟨a, b, rfl⟩)).mono fun e w' ⟨N, he, _, _, hb⟩ => ⟨_, N, he, hb⟩
  | range =>
    obtain ⟨a, b, hc⟩ := hL.rng
    exact (sh_strconv_Atoi_range s (by omega) e _ w hc (.inr ⟨a, b, rfl⟩)).mono fun e w' ⟨N, he, _, _, hb⟩ => ⟨_, N, he, hb⟩
theorem itoa_any (n : Int) (h0 : -9223372036854775808 ≤ n) (h1 : n ≤ 9223372036854775807) (w : World) (hL : Laid w) :
    Calls Tryd.prog 34 #[.int .i64 n] w fun e w' => e = .returned (.string (sof (Lib.itoa n))) ∧ Below w.heap.size w w' :=
  (sh_strconv_Itoa n h0 h1 w hL.tab).mono fun e w' ⟨he, k, os, hw⟩ => ⟨he, by subst hw; exact bel (bel_dn w k) (bel_grow _ os)⟩

set_option maxRecDepth 100000 in
set_option maxHeartbeats 1000000 in
theorem lenOf_any (s : ByteArray) (hs : s.size ≤ 65536) (w : World) (hL : Laid w) :
    Calls Tryd.prog 46 #[.string s] w fun e w' => e = .returned (.int .i64 (lenC (bs s))) ∧ Below w.heap.size w w' := by
  by_cases hA : ∃ n, Lib.atoiAll (bs s) = .ok n
  · obtain ⟨n, hn⟩ := hA
    have hbd := Lib.atoiAll_bounds hn
    have HK1 : Hid (∀ w, Calls Tryd.prog 57 #[.string s] w fun e w' => e = .returned (.tuple #[.int .i64 n, .nilIface]) ∧ Below w.heap.size w w') := fun w => atoi_ok s hs n hn w
    have HK2 : Hid (∀ w, Laid w → Calls Tryd.prog 34 #[.int .i64 n] w fun e w' => e = .returned (.string (sof (Lib.itoa n))) ∧ Below w.heap.size w w') := fun w h => itoa_any n hbd.1 hbd.2 w h
    have HL : Hid (Laid w) := hL
    have hlc : lenC (bs s) = if Lib.itoa n = bs s then n else 0 := by unfold lenC; rw [hn]
    rw [hlc]
    clear hlc hn
    have hsof : (sof (Lib.itoa n)).toList = Lib.itoa n := by rw [ByteArray.toList_eq]; exact bs_of _
    have hst : s.toList = bs s := ByteArray.toList_eq s
    by_cases he : Lib.itoa n = bs s
    · have e1 : ((sof (Lib.itoa n)).toList == s.toList) = true := by rw [hsof, hst, he]; simp
      rw [if_pos he]
      clear he hsof hst
      go_enter Tryd.func46, Tryd.ntmps46
      go_wp2_with (first
        | (go_at_call 57; refine (HK1.out _).mono ?_; rintro e w1 ⟨rfl, hb1⟩)
        | (go_at_call 34; refine (HK2.out _ (HL.out.below hb1)).mono ?_; rintro e w2 ⟨rfl, hb2⟩))
      go_ret
      exact ⟨rfl, bel hb1 hb2⟩
    · have e1 : ((sof (Lib.itoa n)).toList == s.toList) = false := by rw [hsof, hst]; simpa using he
      rw [if_neg he]
      clear he hsof hst
      go_enter Tryd.func46, Tryd.ntmps46
      go_wp2_with (first
        | (go_at_call 57; refine (HK1.out _).mono ?_; rintro e w1 ⟨rfl, hb1⟩)
        | (go_at_call 34; refine (HK2.out _ (HL.out.below hb1)).mono ?_; rintro e w2 ⟨rfl, hb2⟩))
      go_ret
      exact ⟨rfl, bel hb1 hb2⟩
  · have hno : ∀ n, Lib.atoiAll (bs s) ≠ .ok n := fun n e => hA ⟨n, e⟩
    have HK1 : Hid (Calls Tryd.prog 57 #[.string s] w fun e w' => ∃ x N, e = .returned (.tuple #[.int .i64 x, .iface 100 (.pointer (some ⟨N, 0, none⟩))]) ∧ Below w.heap.size w w') := atoi_bad s hs hno w hL
    have hlc : lenC (bs s) = 0 := by
      unfold lenC
      cases e : Lib.atoiAll (bs s) with
      | ok n => exact absurd e (hno n)
      | «syntax» => rfl
      | range => rfl
    rw [hlc]
    clear hlc hno hA
    go_enter Tryd.func46, Tryd.ntmps46
    go_wp2_with (go_at_call 57; refine HK1.out.mono ?_; rintro e w1 ⟨x, N, rfl, hb1⟩)
    go_ret
    exact ⟨rfl, hb1⟩

set_option maxRecDepth 100000 in
set_option maxHeartbeats 1000000 in
theorem kindOf_any (k : Bs) (w : World) :
    Calls Tryd.prog 45 #[.string (sof k)] w fun e w' => e = .returned (.int .i64 (kindC k)) ∧ w' = w := by
  have hst : (sof k).toList = k := by rw [ByteArray.toList_eq]; exact bs_of _
  unfold kindC
  by_cases h1 : k = realB
  · have e1 : ((sof k).toList == [114, 101, 97, 108]) = true := by rw [hst, h1]; rfl
    rw [if_pos h1]
    clear h1 hst
    go_enter Tryd.func45, Tryd.ntmps45
    go_wp2
    all_goals (go_ret; exact ⟨rfl, rfl⟩)
  · have e1 : ((sof k).toList == [114, 101, 97, 108]) = false := by rw [hst, beq_eq_false_iff_ne]; exact h1
    rw [if_neg h1]
    by_cases h2 : k = complexB
    · have e2 : ((sof k).toList == [99, 111, 109, 112, 108, 101, 120]) = true := by rw [hst, h2]; rfl
      rw [if_pos h2]
      clear h1 h2 hst
      go_enter Tryd.func45, Tryd.ntmps45
      go_wp2
      all_goals (go_ret; exact ⟨rfl, rfl⟩)
    · have e2 : ((sof k).toList == [99, 111, 109, 112, 108, 101, 120]) = false := by rw [hst, beq_eq_false_iff_ne]; exact h2
      rw [if_neg h2]
      clear h1 h2 hst
      go_enter Tryd.func45, Tryd.ntmps45
      go_wp2
      all_goals (go_ret; exact ⟨rfl, rfl⟩)

theorem clone_any (s : ByteArray) (hs : s.size ≤ 65536) (w : World) :
    Calls Tryd.prog 44 #[.string s] w fun e w' => e = .returned (.string s) ∧ Below w.heap.size w w' := by
  go_enter Tryd.func44, Tryd.ntmps44
  go_wp2_with (go_at_call 56; refine (sh_stringslite_Clone s _ (by omega)).mono ?_; rintro e w1 ⟨rfl, hb⟩)
  go_ret
  exact ⟨rfl, hb⟩

theorem cut_len (s : Bs) : (Lib.cut s [32]).1.length ≤ s.length ∧ (Lib.cut s [32]).2.1.length ≤ s.length := by
  rcases cut_one 32 s with ⟨e, _⟩ | ⟨x, y, hs, _, e⟩
  · rw [e]; simp
  · rw [e, hs]; simp; omega
theorem bs_sof (x : Bs) : bs (sof x) = x := bs_of x

theorem cut_any (s : ByteArray) (hs : s.size ≤ 65536) (w : World) (hL : Laid w) :
    Calls Tryd.prog 43 #[.string s, .string ⟨#[32]⟩] w fun e w' => e = .returned (.tuple #[.string (sof (Lib.cut (bs s) [32]).1), .string (sof (Lib.cut (bs s) [32]).2.1), .bool (Lib.cut (bs s) [32]).2.2]) ∧ Below w.heap.size w w' := by
  obtain ⟨m, hm⟩ := hL.mx
  exact (sh_strings_Cut s ⟨#[32]⟩ m w (by omega) hm).mono fun e w' ⟨he, n, hw⟩ => ⟨he, by subst hw; exact bel_dn w n⟩

set_option maxRecDepth 100000 in
set_option maxHeartbeats 1000000 in
theorem read_any (s : ByteArray) (hs : s.size ≤ 65536) (w : World) (hL : Laid w) :
    Calls Tryd.prog 30 #[.string s] w fun e w' => e = .returned (pv (readC (bs s))) ∧ Below w.heap.size w w' := by
  have K1 := fun w h => cut_any s hs w h
  have l1 := cut_len (bs s)
  rw [bs_length] at l1
  unfold readC
  obtain ⟨a, ha⟩ : ∃ a, (Lib.cut (bs s) [32]).1 = a := ⟨_, rfl⟩
  obtain ⟨r, hr⟩ : ∃ r, (Lib.cut (bs s) [32]).2.1 = r := ⟨_, rfl⟩
  obtain ⟨f, hf⟩ : ∃ f, (Lib.cut (bs s) [32]).2.2 = f := ⟨_, rfl⟩
  simp only [ha, hr, hf] at K1 l1 ⊢
  have K2 := fun w h => cut_any (sof r) (by rw [sof_size]; omega) w h
  have l2 := cut_len r
  simp only [bs_sof] at K2
  obtain ⟨k, hk⟩ : ∃ a, (Lib.cut r [32]).1 = a := ⟨_, rfl⟩
  obtain ⟨n, hn⟩ : ∃ a, (Lib.cut r [32]).2.1 = a := ⟨_, rfl⟩
  obtain ⟨f2, hf2⟩ : ∃ f, (Lib.cut r [32]).2.2 = f := ⟨_, rfl⟩
  simp only [hk, hn, hf2] at K2 l2 ⊢
  have K4 := fun w h => lenOf_any (sof n) (by rw [sof_size]; omega) w h
  simp only [bs_sof] at K4
  have HK1 : Hid (∀ w, Laid w → Calls Tryd.prog 43 #[.string s, .string ⟨#[32]⟩] w fun e w' => e = .returned (.tuple #[.string (sof a), .string (sof r), .bool f]) ∧ Below w.heap.size w w') := K1
  have HK2 : Hid (∀ w, Laid w → Calls Tryd.prog 43 #[.string (sof r), .string ⟨#[32]⟩] w fun e w' => e = .returned (.tuple #[.string (sof k), .string (sof n), .bool f2]) ∧ Below w.heap.size w w') := K2
  have HC : Hid (∀ w, Calls Tryd.prog 44 #[.string (sof a)] w fun e w' => e = .returned (.string (sof a)) ∧ Below w.heap.size w w') := fun w => clone_any (sof a) (by rw [sof_size]; omega) w
  have HK3 : Hid (∀ w, Calls Tryd.prog 45 #[.string (sof k)] w fun e w' => e = .returned (.int .i64 (kindC k)) ∧ w' = w) := kindOf_any k
  have HK4 : Hid (∀ w, Laid w → Calls Tryd.prog 46 #[.string (sof n)] w fun e w' => e = .returned (.int .i64 (lenC n)) ∧ Below w.heap.size w w') := K4
  have HL : Hid (Laid w) := hL
  clear K1 K2 K4 l1 l2 ha hr hf hk hn hf2
  have ea : (⟨a.toArray⟩ : ByteArray) = sof a := rfl
  rw [ea]
  clear ea
  unfold pv
  have tok1 : True := trivial
  go_enter Tryd.func30, Tryd.ntmps30
  go_wp2_with (first
    | (go_at_call 43; have _t := tok1; refine (HK1.out _ (HL.out.below (bel_alloc _ _))).mono ?_; rintro e w1 ⟨rfl, hb1⟩; clear tok1)
    | (go_at_call 43; refine (HK2.out _ (HL.out.below (bel (bel_alloc _ _) hb1))).mono ?_; rintro e w2 ⟨rfl, hb2⟩)
    | (go_at_call 44; refine (HC.out _).mono ?_; rintro e w3 ⟨rfl, hb3⟩)
    | (go_at_call 45; refine (HK3.out _).mono ?_; rintro e w9 ⟨rfl, rfl⟩)
    | (go_at_call 46; refine (HK4.out _ (HL.out.below (bel (bel (bel (bel_alloc _ _) hb1) hb2) hb3))).mono ?_; rintro e w4 ⟨rfl, hb4⟩; obtain ⟨⟨r0, r1, r2⟩, q0, q1, q2⟩ := box3 (bel (bel (bel hb1 hb2) hb3) hb4)))
  refine bodyPost_ret (by simp [results, Tryd.results30, go_sem, *]; try rfl) rfl ?_
  refine ⟨rfl, ?_⟩
  have HB := bel (bel (bel (bel (bel_alloc _ _) hb1) hb2) hb3) hb4
  exact ((HB.setCell (Nat.le_refl _) _).setCell (Nat.le_refl _) _).setCell (Nat.le_refl _) _

end Go.Proofs.YtmpfoajpafglgaaDoor
