import Derived.Test.YtmpfoajpafglgaaDoorSignText
/- Package sign: Parse. -/
namespace Go.Proofs.YtmpfoajpafglgaaDoor
open Go.RowKit
set_option linter.unusedVariables false
set_option linter.unusedSimpArgs false

theorem splitB_sizes (sep : ByteArray) : ∀ (k : Nat) (s x : ByteArray), x ∈ Lib.splitB sep 0 k s → x.size ≤ s.size
  | 0, s, x, h => by
    rw [Lib.splitB, List.mem_singleton] at h
    rw [h]
    exact Nat.le_refl _
  | k + 1, s, x, h => by
    unfold Lib.splitB at h
    split at h
    · rw [List.mem_singleton] at h
      rw [h]
      exact Nat.le_refl _
    · rcases List.mem_cons.1 h with rfl | h
      · rw [ByteArray.size_extract]; omega
      · have := splitB_sizes sep k _ x h
        rw [ByteArray.size_extract] at this
        omega
/-- The lines of a text. -/
def linesB (s : ByteArray) : List ByteArray := Lib.splitB ⟨#[10]⟩ 0 (Lib.countB s ⟨#[10]⟩) s
theorem lines_bs (s : ByteArray) : (linesB s).map bs = Lib.splitK [10] 0 ((bs s).count 10) (bs s) := by
  have h := Lib.splitB_data ⟨#[10]⟩ 0 (Lib.countB s ⟨#[10]⟩) s
  have hc : Lib.countB s ⟨#[10]⟩ = (bs s).count 10 := Lib.count_one 10 (bs s)
  unfold linesB
  rw [hc] at h ⊢
  exact h
theorem lines_len (s : ByteArray) : (linesB s).length = Lib.countB s ⟨#[10]⟩ + 1 := Lib.splitB_all ⟨#[10]⟩ (by decide) 0 _ s rfl
theorem lines_few (s : ByteArray) : (linesB s).length ≤ s.size + 1 := by
  rw [lines_len]
  have := Lib.countB_le ⟨#[10]⟩ (by decide) s.size s (Nat.le_refl _)
  omega
theorem lines_read (s : ByteArray) : readAll s = readL [] 0 ((linesB s).map bs) := by
  unfold readAll
  rw [lines_bs, readL_split]

theorem split_any (s : ByteArray) (hs : s.size ≤ 65536) (w : World) (hL : Laid w) :
    Calls Tryd.prog 29 #[.string s, .string ⟨#[10]⟩] w fun e w' => e = .returned (.slice (some ⟨w.heap.size, 0, none⟩) (linesB s).length (linesB s).length) ∧ Below w.heap.size w w' ∧ w'.heap.size = w.heap.size + 1 ∧ ∀ i (h : i < (linesB s).length), w'.cell? ⟨w.heap.size, i, none⟩ = some (.string (linesB s)[i]) := by
  obtain ⟨m, hm⟩ := hL.mx
  refine (sh_strings_Split s ⟨#[10]⟩ m w (by omega) hm (by decide)).mono fun e w' ⟨he, hw⟩ => ?_
  subst hw
  refine ⟨by rw [he, lines_len], bel_alloc _ _, by simp, fun i hi => ?_⟩
  have e2 : (Lib.splitB ⟨#[10]⟩ 0 (Lib.countB s ⟨#[10]⟩) s) = linesB s := rfl
  rw [e2]
  simp [Addr.add]
theorem own_weak {w : World} {B B' : Nat} {v : Value} {l : List Par} (h : Own w B v l) (hB : B' ≤ B) : Own w B' v l := by
  obtain ⟨hl, h⟩ := h
  refine ⟨hl, h.imp id ?_⟩
  rintro ⟨g, cap, cur, hv, hg, h⟩
  exact ⟨g, cap, cur, hv, Nat.le_trans hB hg, h⟩
theorem news3 (w : World) (cs : Array Value) (t : TypeId) : ∀ j u, cs.toList[j]? = some u → (w.alloc (.cells cs t)).cell? ((⟨w.heap.size, 0, none⟩ : Addr).add j) = some u :=
  World.news_of_block (heap_alloc_new w (.cells cs t))

/-- What the loop keeps. -/
structure PS (s : ByteArray) (B : Nat) (wr : World) (ov : Value) (j : Nat) (acc : List Par) : Prop where
  own : Own wr B ov acc
  may : ∀ p ∈ acc, mayP p = true
  lines : readAll s = readL acc j (((linesB s).drop j).map bs)
theorem PS.skip {s : ByteArray} {B : Nat} {wr w' : World} {ov : Value} {j j' : Nat} {acc : List Par} (h : PS s B wr ov j acc) (hb : Below wr.heap.size wr w') (hl : readAll s = readL acc j' (((linesB s).drop j').map bs)) : PS s B w' ov j' acc :=
  ⟨h.own.below hb, h.may, hl⟩

set_option maxRecDepth 100000 in
set_option maxHeartbeats 4000000 in
theorem sParse_any (s : ByteArray) (hm : s.size ≤ 140737488351232) (w : World) (hL : Laid w) :
    Calls Tryd.prog 19 #[.string s] w fun e w' => ∃ v, e = .returned (.tuple #[v, .int .i64 (parseP (bs s)).err, .int .i64 ((parseP (bs s)).line : Int)]) ∧ Own w' w.heap.size v (parseP (bs s)).list ∧ Below w.heap.size w w' := by
  obtain ⟨i0, hi0, hz0, hz1, hz2⟩ := info_parts info_Param
  by_cases hlong : s.size > 65536
  · rw [parse_long (s := bs s) (by rw [bs_length]; exact hlong)]
    have i1 : (65536 : Int) < (s.size : Int) := by omega
    go_enter Tryd.func19, Tryd.ntmps19
    go_wp2
    go_ret3
    exact ⟨_, rfl, own_nil _ _, bel0 w⟩
  · have hs : s.size ≤ 65536 := by omega
    have i1 : ¬ (65536 : Int) < (s.size : Int) := by omega
    have PL1 : Hid (∀ m, readAll s = ⟨[], 250, m⟩ → parseP (bs s) = ⟨[], 250, m⟩) := fun m h => parse_line hs h
    have PL2 : Hid (∀ acc, readAll s = ⟨acc, 0, 0⟩ → checkP acc ≠ 0 → parseP (bs s) = ⟨[], checkP acc, 0⟩) := fun acc h1 h2 => parse_check hs h1 h2
    have PL3 : Hid (∀ acc, readAll s = ⟨acc, 0, 0⟩ → checkP acc = 0 → parseP (bs s) = ⟨acc, 0, 0⟩) := fun acc h1 h2 => parse_ok hs h1 h2
    have hNb := lines_few s
    obtain ⟨N, hN⟩ : ∃ N, (linesB s).length = N := ⟨_, rfl⟩
    rw [hN] at hNb
    have HS : Hid (Calls Tryd.prog 29 #[.string s, .string ⟨#[10]⟩] w fun e w' => e = .returned (.slice (some ⟨w.heap.size, 0, none⟩) N N) ∧ Below w.heap.size w w' ∧ w'.heap.size = w.heap.size + 1 ∧ ∀ i (h : i < (linesB s).length), w'.cell? ⟨w.heap.size, i, none⟩ = some (.string (linesB s)[i])) := (split_any s hs w hL).mono fun e w' ⟨he, r⟩ => ⟨by rw [he, hN], r⟩
    have HN : Hid ((linesB s).length = N) := hN
    have HL : Hid (Laid w) := hL
    have hN2 : N ≤ 65537 := by omega
    clear hN hL hNb
    go_enter Tryd.func19, Tryd.ntmps19
    go_wp2_with (go_at_call 29; refine HS.out.mono ?_; rintro e W1 ⟨rfl, hb0, hsz0, hcl⟩; have HCL : Hid (∀ i (h : i < (linesB s).length), W1.cell? ⟨w.heap.size, i, none⟩ = some (.string (linesB s)[i])) := hcl; have HSZ : Hid (W1.heap.size = w.heap.size + 1) := hsz0; clear hcl hsz0)
    go_loopw [5, 16] (fun lv iv wr => Below W1.heap.size W1 wr ∧ ∃ (j : Nat) (acc : List Par) (ov : Value), ov = lv ∧ j ≤ N ∧ acc.length ≤ j ∧ iv = .int .i64 j ∧ Hid (PS s W1.heap.size wr ov j acc)) (fun _ iv _ => N - (intOf iv).toNat)
    case atStart => exact ⟨bel0 _, 0, [], _, rfl, Nat.zero_le _, Nat.zero_le _, rfl, ⟨own_nil _ _, fun p h => (by cases h), by rw [List.drop_zero]; exact lines_read s⟩⟩
    case round =>
      obtain ⟨hb, j, acc, ov, rfl, hj, hac, rfl, HP⟩ := hrel
      have szr := hb.size
      have hLr : Laid wr := (HL.out.below hb0).below hb
      by_cases hlt : j < N
      · have hll : j < (linesB s).length := by rw [HN.out]; exact hlt
        have j1 : (0 : Int) ≤ (j : Int) := by omega
        have j2 : (j : Int) < (N : Int) := by omega
        have hcell : wr.cell? ⟨w.heap.size, j, none⟩ = some (.string (linesB s)[j]) := keepc hb (HCL.out j hll)
        have hdr : (linesB s).drop j = (linesB s)[j] :: (linesB s).drop (j + 1) := List.drop_eq_getElem_cons hll
        have hXs : (linesB s)[j].size ≤ 65536 := Nat.le_trans (splitB_sizes _ _ _ _ (List.getElem_mem hll)) hs
        have hrd := HP.out.lines
        rw [hdr, List.map_cons] at hrd
        obtain ⟨X, hX⟩ : ∃ X, (linesB s)[j] = X := ⟨_, rfl⟩
        rw [hX] at hcell hXs hrd
        have HCUT : Hid (readAll s = readL acc j (bs X :: ((linesB s).drop (j + 1)).map bs)) := hrd
        have hnw : IntKind.i64.wrap ((j : Int) + 1) = (j : Int) + 1 := by rw [IntKind.wrap_i64]; omega
        clear hdr hrd hX
        by_cases h0 : X.size = 0
        · have he2 : (X.toList == []) = true := by rw [nonempty]; simp [h0]
          have he : X.toList.isEmpty = true := by rw [isEmpty_size]; simp [h0]
          have hbe : bs X = [] := List.eq_nil_of_length_eq_zero (by rw [bs_length]; exact h0)
          have HNX : Hid (PS s W1.heap.size wr ov (j + 1) acc) := HP.out.skip (bel0 _) (by rw [HCUT.out, hbe, read_skip rfl])
          clear h0 hbe HP PL1 PL2 PL3 HCUT hLr
          go_wp2
          go_roundw
          case rel => exact ⟨hb, j + 1, acc, _, rfl, by omega, by omega, by go_num, HNX⟩
          case measure => simp [intOf]; omega
        · have he2 : (X.toList == []) = false := by rw [nonempty]; simp [h0]
          have he : X.toList.isEmpty = false := by rw [isEmpty_size]; simp [h0]
          have hz : 0 < X.size := by omega
          have hz1' : (0 : Int) < (X.size : Int) := by omega
          have hxc : bs X = X[0] :: (bs X).drop 1 := by have := drop_at X 0 hz; rwa [List.drop_zero] at this
          by_cases h35 : (X[0].toNat : Int) = 35
          · have h35' : ((X[0].toNat : Int) == 35) = true := by simpa using h35
            have HNX : Hid (PS s W1.heap.size wr ov (j + 1) acc) := HP.out.skip (bel0 _) (by rw [HCUT.out, read_skip (by rw [hxc]; simp [hd, nb, h35])])
            clear h35 hxc HP PL1 PL2 PL3 HCUT hLr
            go_wp2
            go_roundw
            case rel => exact ⟨hb, j + 1, acc, _, rfl, by omega, by omega, by go_num, HNX⟩
            case measure => simp [intOf]; omega
          · have h35' : ((X[0].toNat : Int) == 35) = false := by simpa using h35
            have hsk : ((bs X).isEmpty || hd (bs X) == 35) = false := by rw [hxc]; simp [hd, nb, h35]
            have KR := read_any X hXs wr hLr
            rcases read_line (bs X) with ⟨hmay, hlp⟩ | ⟨hmay, hlp⟩
            · have KM := fun w => mayNot_any (readC (bs X)) (Nat.le_trans (may_size hmay) (by decide)) w
              have hln : readAll s = readL (acc ++ [readC (bs X)]) (j + 1) (((linesB s).drop (j + 1)).map bs) := by rw [HCUT.out, read_par hsk hlp]
              rw [hmay] at KM
              obtain ⟨p, hp⟩ : ∃ p, readC (bs X) = p := ⟨_, rfl⟩
              rw [hp] at KR KM hln hmay
              obtain ⟨A, K, L⟩ := p
              unfold pv at KR KM
              simp only [Bool.not_true] at KR KM
              have HKR : Hid (Calls Tryd.prog 30 #[.string X] wr fun e w' => e = .returned (.agg #[.string A, .int .i64 K, .int .i64 L]) ∧ Below wr.heap.size wr w') := KR
              have HKM : Hid (∀ w, Calls Tryd.prog 27 #[.agg #[.string A, .int .i64 K, .int .i64 L]] w fun e w' => e = .returned (.bool false) ∧ Below w.heap.size w w') := KM
              have HNX : Hid (readAll s = readL (acc ++ [⟨A, K, L⟩]) (j + 1) (((linesB s).drop (j + 1)).map bs) ∧ mayP ⟨A, K, L⟩ = true) := ⟨hln, hmay⟩
              clear hsk hxc h35 hlp hmay hln PL1 PL2 PL3 HCUT KR KM hp hLr
              go_wp2_with (first
                | (go_at_call 30; refine HKR.out.mono ?_; rintro e w2 ⟨rfl, hb2⟩)
                | (go_at_call 27; refine (HKM.out _).mono ?_; rintro e w3 ⟨rfl, hb3⟩; obtain ⟨⟨r0, r1, r2⟩, -⟩ := box3 hb3; have hb4 : Below wr.heap.size wr w3 := bel (bel hb2 (bel_alloc _ _)) hb3; have HO3 : Hid (Own w3 W1.heap.size ov acc) := HP.out.own.below hb4; have sz4 := hb4.size; clear hb2 hb3)
                | (at_builtin; refine wpList_append_own_at _ rfl _ _ 22 rfl W1.heap.size 30 i0 _ 3 32 Tryd.underlying22 hi0 hz0 hz1 hz2 rfl (by decide) ov acc.length (cellsOf acc) rfl (World.ownsRow.alloc HO3.out _) ⟨w3.heap.size, 0, none⟩ 1 1 [.string A, .int .i64 K, .int .i64 L] rfl rfl (news3 w3 #[.string A, .int .i64 K, .int .i64 L] 30) (by simp [Value.oneCell']) (by unfold maxLen; omega) (by omega) (by simp; omega) ?_; intro v' w5 hown5 hgrow hnil hat; have HO5 : Hid (w5.ownsRow W1.heap.size 30 3 v' (acc.length + 1) (cellsOf acc ++ [.string A, .int .i64 K, .int .i64 L]) ∧ (w3.alloc (.cells #[.string A, .int .i64 K, .int .i64 L] 30)).grownBy w5 ov.ownBlock) := ⟨hown5, hgrow⟩; clear hown5 hgrow hnil hat))
              go_roundw
              case rel =>
                obtain ⟨ho5, hgrow⟩ := HO5.out
                have hob := HO3.out.lt
                refine ⟨Below.grown ((bel hb hb4).alloc (by omega) _) hgrow (by simp; omega) (fun q e => (hob q e).1), j + 1, acc ++ [⟨A, K, L⟩], _, rfl, by omega, by simp; omega, by go_num, ⟨?_, ?_, HNX.out.1⟩⟩
                · unfold Own
                  rw [cellsOf_snoc, List.length_append]
                  exact ho5
                · intro q hq
                  rcases List.mem_append.1 hq with hq | hq
                  · exact HP.out.may q hq
                  · simp at hq; subst hq; exact HNX.out.2
              case measure => simp [intOf]; omega
            · have hns : (readC (bs X)).name.size ≤ 65536 := by
                have := (cut_len (bs X)).1
                rw [bs_length] at this
                show (⟨(Lib.cut (bs X) [32]).1.toArray⟩ : ByteArray).size ≤ 65536
                have e2 : (⟨(Lib.cut (bs X) [32]).1.toArray⟩ : ByteArray).size = (Lib.cut (bs X) [32]).1.length := sof_size _
                omega
              have KM := fun w => mayNot_any (readC (bs X)) (Nat.le_trans hns (by decide)) w
              have HF : Hid (parseP (bs s) = ⟨[], 250, j + 1⟩) := PL1.out _ (by rw [HCUT.out, read_bad hsk hlp])
              rw [hmay] at KM
              obtain ⟨p, hp⟩ : ∃ p, readC (bs X) = p := ⟨_, rfl⟩
              rw [hp] at KR KM
              obtain ⟨A, K, L⟩ := p
              unfold pv at KR KM
              simp only [Bool.not_false] at KR KM
              have HKR : Hid (Calls Tryd.prog 30 #[.string X] wr fun e w' => e = .returned (.agg #[.string A, .int .i64 K, .int .i64 L]) ∧ Below wr.heap.size wr w') := KR
              have HKM : Hid (∀ w, Calls Tryd.prog 27 #[.agg #[.string A, .int .i64 K, .int .i64 L]] w fun e w' => e = .returned (.bool true) ∧ Below w.heap.size w w') := KM
              clear hsk hxc h35 hlp hmay PL1 PL2 PL3 HCUT KR KM hp hLr HP hns
              go_wp2_with (first
                | (go_at_call 30; refine HKR.out.mono ?_; rintro e w2 ⟨rfl, hb2⟩)
                | (go_at_call 27; refine (HKM.out _).mono ?_; rintro e w3 ⟨rfl, hb3⟩))
              go_ret3
              rw [HF.out]
              exact ⟨_, by simp, own_nil _ _, bel (bel (bel (bel hb0 hb) hb2) (bel_alloc _ _)) hb3⟩
      · have hjs : j = N := by omega
        have hfin : readAll s = ⟨acc, 0, 0⟩ := by
          have := HP.out.lines
          rw [List.drop_of_length_le (by rw [HN.out]; omega)] at this
          exact this
        have j4 : ¬ ((j : Int) < (N : Int)) := by omega
        have hal : acc.length ≤ 65537 := by omega
        have KC := sCheck_any ov acc (by omega) (fun p hp => by have := may_size (HP.out.may p hp); omega) wr HP.out.own.rd
        obtain ⟨C, hC⟩ : ∃ C, checkP acc = C := ⟨_, rfl⟩
        rw [hC] at KC
        have HK : Hid (Calls Tryd.prog 11 #[ov] wr fun e w' => e = .returned (.int .i64 C) ∧ Below wr.heap.size wr w') := KC
        clear KC hLr
        by_cases hC0 : C = 0
        · have HF : Hid (parseP (bs s) = ⟨acc, 0, 0⟩) := PL3.out acc hfin (by rw [hC]; exact hC0)
          subst hC0
          clear hfin hC PL1 PL2 PL3
          go_wp2_with (go_at_call 11; refine HK.out.mono ?_; rintro e w2 ⟨rfl, hb2⟩)
          go_ret3
          rw [HF.out]
          exact ⟨_, rfl, own_weak (HP.out.own.below hb2) (by rw [HSZ.out]; exact Nat.le_succ _), bel (bel hb0 hb) hb2⟩
        · have HF : Hid (parseP (bs s) = ⟨[], C, 0⟩) := by
            have := PL2.out acc hfin (by rw [hC]; exact hC0)
            rw [hC] at this
            exact this
          have hC1 : (C == 0) = false := by simpa using hC0
          have hC2 : (C != 0) = true := by simpa using hC0
          clear hfin hC hC0 PL1 PL2 PL3
          go_wp2_with (go_at_call 11; refine HK.out.mono ?_; rintro e w2 ⟨rfl, hb2⟩)
          go_ret3
          rw [HF.out]
          exact ⟨_, rfl, own_nil _ _, bel (bel hb0 hb) hb2⟩

end Go.Proofs.YtmpfoajpafglgaaDoor
