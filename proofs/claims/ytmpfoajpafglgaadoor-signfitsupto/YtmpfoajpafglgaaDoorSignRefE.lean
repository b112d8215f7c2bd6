import Derived.Test.YtmpfoajpafglgaaDoorSignRefD
/- The reference: Parse. -/
namespace Go.Proofs.YtmpfoajpafglgaaDoor
open Go.RowKit
set_option linter.unusedVariables false
set_option linter.unusedSimpArgs false

def curB (s : ByteArray) (f i : Nat) : Bs := ((bs s).drop f).take (i - f)
def readAll (s : ByteArray) : Red := readL [] 0 (linesA [] (bs s))
/-- So far: the lines. -/
def LinesAt (s : ByteArray) (acc : List Par) (n f i : Nat) : Prop :=
  (i ≤ s.size ∧ f ≤ i ∧ readAll s = readL acc n (linesA (curB s f i) ((bs s).drop i))) ∨ (i = s.size + 1 ∧ readAll s = ⟨acc, 0, 0⟩)
theorem lines_start (s : ByteArray) : LinesAt s [] 0 0 0 := .inl ⟨Nat.zero_le _, Nat.le_refl _, by simp [readAll, curB]⟩
theorem lines_on {s : ByteArray} {acc : List Par} {n f i : Nat} (h : LinesAt s acc n f i) (hi : i < s.size) (hc : (s[i].toNat : Int) ≠ 10) : LinesAt s acc n f (i + 1) := by
  rcases h with ⟨h1, h2, h3⟩ | ⟨h1, _⟩
  · refine .inl ⟨hi, by omega, ?_⟩
    rw [h3, drop_at s i hi, linesA, if_neg (by simpa [nb] using hc)]
    unfold curB
    rw [← cur_next h2 hi]
  · omega
theorem cur_len {s : ByteArray} {f i : Nat} (hf : f ≤ i) (hi : i ≤ s.size) : (curB s f i).length = i - f := by
  unfold curB
  rw [List.length_take, List.length_drop, bs_length]
  omega
theorem lines_cut {s : ByteArray} {acc : List Par} {n f i : Nat} (h : LinesAt s acc n f i) (hi : i ≤ s.size) (hc : (∃ h : i < s.size, (s[i].toNat : Int) = 10) ∨ (i = s.size ∧ f < s.size)) : readAll s = readL acc n (curB s f i :: linesA [] ((bs s).drop (i + 1))) := by
  rcases h with ⟨h1, h2, h3⟩ | ⟨h1, _⟩
  · rw [h3]
    rcases hc with ⟨hlt, hc⟩ | ⟨rfl, hf⟩
    · rw [drop_at s i hlt, linesA, if_pos (by simpa [nb] using hc)]
    · have hl := cur_len h2 h1
      rw [drop_end s _ (Nat.le_refl _), drop_end s _ (Nat.le_succ _), linesA, linesA]
      have : (curB s f s.size).isEmpty = false := by
        cases hcc : curB s f s.size with
        | nil => rw [hcc] at hl; simp at hl; omega
        | cons a b => rfl
      rw [this]
      rfl
  · omega
theorem lines_to {s : ByteArray} {acc : List Par} {n i : Nat} (hi : i ≤ s.size) (h : readAll s = readL acc n (linesA [] ((bs s).drop (i + 1)))) : LinesAt s acc n (i + 1) (i + 1) := by
  by_cases hlt : i < s.size
  · refine .inl ⟨hlt, Nat.le_refl _, ?_⟩
    rw [h]
    simp [curB]
  · have : i = s.size := by omega
    subst this
    refine .inr ⟨rfl, ?_⟩
    rw [h, drop_end s _ (Nat.le_succ _), linesA]
    rfl
theorem lines_last {s : ByteArray} {acc : List Par} {n : Nat} (h : LinesAt s acc n s.size s.size) : LinesAt s acc n s.size (s.size + 1) := by
  rcases h with ⟨h1, h2, h3⟩ | ⟨h1, _⟩
  · refine .inr ⟨rfl, ?_⟩
    rw [h3, drop_end s _ (Nat.le_refl _)]
    simp [curB, linesA, readL]
  · omega
theorem read_skip {acc : List Par} {n : Nat} {x : Bs} {r : List Bs} (h : (x.isEmpty || hd x == 35) = true) : readL acc n (x :: r) = readL acc (n + 1) r := by rw [readL, if_pos h]
theorem read_bad {acc : List Par} {n : Nat} {x : Bs} {r : List Bs} (h : (x.isEmpty || hd x == 35) = false) (hp : lineP x = none) : readL acc n (x :: r) = ⟨[], 250, n + 1⟩ := by rw [readL, if_neg (by rw [h]; decide), hp]
theorem read_par {acc : List Par} {n : Nat} {x : Bs} {r : List Bs} {p : Par} (h : (x.isEmpty || hd x == 35) = false) (hp : lineP x = some p) : readL acc n (x :: r) = readL (acc ++ [p]) (n + 1) r := by rw [readL, if_neg (by rw [h]; decide), hp]
theorem line_may {x : Bs} {p : Par} (h : lineP x = some p) : mayP p = true := by
  unfold lineP at h
  split at h
  · rename_i a k n e
    unfold parL at h
    generalize (if (k == complexB) = true then (2 : Int) else 1) = K at h
    split at h
    · split at h
      · split at h
        · rename_i hm
          cases h
          exact hm
        · cases h
      · cases h
    · cases h
  · cases h
theorem may_size {p : Par} (h : mayP p = true) : p.name.size ≤ 64 := by
  unfold mayP namedP at h
  simp at h
  exact h.1.1.1.2
theorem parse_long {s : Bs} (h : s.length > 65536) : parseP s = ⟨[], 2, 0⟩ := by unfold parseP; rw [if_pos h]
theorem parse_line {s : ByteArray} {m : Nat} (h : s.size ≤ 65536) (hr : readAll s = ⟨[], 250, m⟩) : parseP (bs s) = ⟨[], 250, m⟩ := by
  unfold readAll at hr
  unfold parseP
  rw [if_neg (by rw [bs_length]; omega), hr]
  rfl
theorem parse_check {s : ByteArray} {acc : List Par} (h : s.size ≤ 65536) (hr : readAll s = ⟨acc, 0, 0⟩) (hc : checkP acc ≠ 0) : parseP (bs s) = ⟨[], checkP acc, 0⟩ := by
  unfold readAll at hr
  unfold parseP
  rw [if_neg (by rw [bs_length]; omega), hr, if_neg (by simp)]
  simp only
  rw [if_pos hc]
theorem parse_ok {s : ByteArray} {acc : List Par} (h : s.size ≤ 65536) (hr : readAll s = ⟨acc, 0, 0⟩) (hc : checkP acc = 0) : parseP (bs s) = ⟨acc, 0, 0⟩ := by
  unfold readAll at hr
  unfold parseP
  rw [if_neg (by rw [bs_length]; omega), hr, if_neg (by simp)]
  simp only
  rw [if_neg (by rw [hc]; decide)]
theorem news2 (w : World) (o : Obj) (cs : Array Value) (t : TypeId) : ∀ j u, cs.toList[j]? = some u → ((w.alloc o).alloc (.cells cs t)).cell? ((⟨w.heap.size + 1, 0, none⟩ : Addr).add j) = some u := by
  have h := World.news_of_block (heap_alloc_new (w.alloc o) (.cells cs t))
  have e : (w.alloc o).heap.size = w.heap.size + 1 := by simp
  rw [e] at h
  exact h

/-- What the loop keeps. -/
structure PL (s : ByteArray) (w wr : World) (ov : Value) (j f n : Nat) (acc : List Par) : Prop where
  own : Own wr w.heap.size ov acc
  may : ∀ p ∈ acc, mayP p = true
  lines : LinesAt s acc n f j
theorem PL.skip {s : ByteArray} {w wr w' : World} {ov : Value} {j f n : Nat} {acc : List Par} (h : PL s w wr ov j f n acc) (hb : Below wr.heap.size wr w') {f' n' j' : Nat} (hl : LinesAt s acc n' f' j') : PL s w w' ov j' f' n' acc :=
  ⟨h.own.below hb, h.may, hl⟩

set_option maxRecDepth 100000 in
set_option maxHeartbeats 4000000 in
theorem rParse_any (s : ByteArray) (hm : s.size ≤ 140737488351232) (w : World) :
    Calls Tryd.prog 20 #[.string s] w fun e w' => ∃ v, e = .returned (.tuple #[v, .int .i64 (parseP (bs s)).err, .int .i64 ((parseP (bs s)).line : Int)]) ∧ Own w' w.heap.size v (parseP (bs s)).list ∧ Below w.heap.size w w' := by
  obtain ⟨i0, hi0, hz0, hz1, hz2⟩ := info_parts info_Param
  by_cases hlong : s.size > 65536
  · rw [parse_long (s := bs s) (by rw [bs_length]; exact hlong)]
    have i1 : (65536 : Int) < (s.size : Int) := by omega
    go_enter Tryd.func20, Tryd.ntmps20
    go_wp2
    go_ret3
    exact ⟨_, rfl, own_nil _ _, bel0 w⟩
  · have hs : s.size ≤ 65536 := by omega
    have i1 : ¬ (65536 : Int) < (s.size : Int) := by omega
    have PL1 : Hid (∀ m, readAll s = ⟨[], 250, m⟩ → parseP (bs s) = ⟨[], 250, m⟩) := fun m h => parse_line hs h
    have PL2 : Hid (∀ acc, readAll s = ⟨acc, 0, 0⟩ → checkP acc ≠ 0 → parseP (bs s) = ⟨[], checkP acc, 0⟩) := fun acc h1 h2 => parse_check hs h1 h2
    have PL3 : Hid (∀ acc, readAll s = ⟨acc, 0, 0⟩ → checkP acc = 0 → parseP (bs s) = ⟨acc, 0, 0⟩) := fun acc h1 h2 => parse_ok hs h1 h2
    go_enter Tryd.func20, Tryd.ntmps20
    go_wp2
    go_loopw [5, 6, 7, 8] (fun lv fv nv iv wr => Below w.heap.size w wr ∧ ∃ (j f n : Nat) (acc : List Par) (ov : Value), ov = lv ∧ j ≤ s.size + 1 ∧ f ≤ j ∧ n ≤ j ∧ acc.length ≤ j ∧ iv = .int .i64 j ∧ fv = .int .i64 f ∧ nv = .int .i64 n ∧ Hid (PL s w wr ov j f n acc)) (fun _ _ _ iv _ => s.size + 1 - (intOf iv).toNat)
    case atStart => exact ⟨bel0 w, 0, 0, 0, [], _, rfl, Nat.zero_le _, Nat.le_refl _, Nat.le_refl _, Nat.zero_le _, rfl, rfl, rfl, ⟨own_nil _ _, fun p h => (by cases h), lines_start s⟩⟩
    case round =>
      obtain ⟨hb, j, f, n, acc, ov, rfl, hj, hf, hn, hac, rfl, rfl, rfl, HP⟩ := hrel
      have j0 : (0 : Int) ≤ (j : Int) := by omega
      have szr := hb.size
      by_cases hle : j ≤ s.size
      · have j3 : (j : Int) ≤ (s.size : Int) := by omega
        by_cases hA : ∃ h : j < s.size, (s[j].toNat : Int) ≠ 10
        · obtain ⟨hlt, hc⟩ := hA
          have j2 : (j : Int) < (s.size : Int) := by omega
          have hc1 : ((s[j].toNat : Int) != 10) = true := by simpa using hc
          have hc2 : ((s[j].toNat : Int) == 10) = false := by simpa using hc
          have HN : Hid (PL s w wr ov (j + 1) f n acc) := HP.out.skip (bel0 _) (lines_on HP.out.lines hlt hc)
          clear hc HP PL1 PL2 PL3
          go_wp2
          go_roundw
          case rel => exact ⟨hb, j + 1, f, n, acc, _, rfl, by omega, by omega, by omega, by omega, by go_num, rfl, rfl, HN⟩
          case measure => simp [intOf]; omega
        · by_cases hC : j = s.size ∧ f = s.size
          · obtain ⟨hjs, hfs⟩ := hC
            subst hjs
            subst hfs
            have HN : Hid (PL s w wr ov (s.size + 1) s.size n acc) := HP.out.skip (bel0 _) (lines_last HP.out.lines)
            clear HP PL1 PL2 PL3
            go_wp2
            go_roundw
            case rel => exact ⟨hb, s.size + 1, s.size, n, acc, _, rfl, Nat.le_refl _, by omega, by omega, by omega, by go_num, rfl, rfl, HN⟩
            case measure => simp [intOf]
          · have hD : (∃ h : j < s.size, (s[j].toNat : Int) = 10) ∨ (j = s.size ∧ f < s.size) := by
              by_cases hlt : j < s.size
              · left
                refine ⟨hlt, ?_⟩
                by_cases e : (s[j].toNat : Int) = 10
                · exact e
                · exact absurd ⟨hlt, e⟩ hA
              · right
                have : j = s.size := by omega
                exact ⟨this, by
                  rcases Nat.lt_or_ge f s.size with h | h
                  · exact h
                  · exact absurd ⟨this, by omega⟩ hC⟩
            have hcut0 := lines_cut HP.out.lines hle hD
            obtain ⟨X, hX⟩ : ∃ X, s.extract f j = X := ⟨_, rfl⟩
            have hXb : bs X = curB s f j := by rw [← hX, bs_extract]; rfl
            have hXs : X.size ≤ 65536 := by rw [← bs_length, hXb, cur_len hf hle]; omega
            rw [← hXb] at hcut0
            have HCUT : Hid (readAll s = readL acc n (bs X :: linesA [] ((bs s).drop (j + 1)))) := hcut0
            have f0 : (0 : Int) ≤ (f : Int) := by omega
            have f1 : (f : Int) ≤ (j : Int) := by omega
            have hnw : IntKind.i64.wrap ((n : Int) + 1) = (n : Int) + 1 := by rw [IntKind.wrap_i64]; omega
            have HLN : Hid (∀ w, Calls Tryd.prog 31 #[.string X] w fun e w' => e = .returned (.tuple #[pvO (lineP (bs X)), .bool (lineP (bs X)).isSome]) ∧ Below w.heap.size w w') := fun w => rLine_any X hXs w
            have HDD : Hid ((∃ h : j < s.size, (s[j].toNat : Int) = 10) ∨ (j = s.size ∧ f < s.size)) := hD
            clear hA hC hD hcut0 hXb
            go_upto_region 9 with fail
            go_cut [43] (fun cv wx => cv = .bool false ∧ wx = wr)
            case first =>
              rcases HDD.out with ⟨hlt, hc⟩ | ⟨hjs, hfs⟩
              · have j2 : (j : Int) < (s.size : Int) := by omega
                have hc1 : ((s[j].toNat : Int) != 10) = false := by rw [bne, beq_iff_eq.2 hc]; rfl
                have hc2 : ((s[j].toNat : Int) == 10) = true := by simpa using hc
                have hj4 : ((j : Int) == (s.size : Int)) = false := by rw [beq_eq_false_iff_ne]; omega
                clear hc HP PL1 PL2 PL3 HLN HCUT HDD
                go_wp2
                go_meet
                exact ⟨rfl, rfl⟩
              · have j2 : ¬ (j : Int) < (s.size : Int) := by omega
                have hj4 : ((j : Int) == (s.size : Int)) = true := by rw [beq_iff_eq]; omega
                have hf4 : ((f : Int) == (s.size : Int)) = false := by rw [beq_eq_false_iff_ne]; omega
                clear HP PL1 PL2 PL3 HLN HCUT HDD hjs hX
                go_wp2
                go_meet
                exact ⟨rfl, rfl⟩
            case rest =>
              obtain ⟨rfl, rfl⟩ := hcut
              rename World => wr
              clear HDD
              by_cases h0 : X.size = 0
              · have he2 : (X.toList == []) = true := by rw [nonempty]; simp [h0]
                have he : X.toList.isEmpty = true := by rw [isEmpty_size]; simp [h0]
                have hbe : bs X = [] := List.eq_nil_of_length_eq_zero (by rw [bs_length]; exact h0)
                have HN : Hid (PL s w wr ov (j + 1) (j + 1) (n + 1) acc) := HP.out.skip (bel0 _) (lines_to hle (by rw [HCUT.out, hbe, read_skip rfl]))
                clear h0 hbe HP PL1 PL2 PL3 HLN HCUT
                go_wp2
                go_roundw
                case rel => exact ⟨hb, j + 1, j + 1, n + 1, acc, _, rfl, by omega, by omega, by omega, by omega, by go_num, by go_num, by go_num, HN⟩
                case measure => simp [intOf]; omega
              · have he2 : (X.toList == []) = false := by rw [nonempty]; simp [h0]
                have he : X.toList.isEmpty = false := by rw [isEmpty_size]; simp [h0]
                have hz : 0 < X.size := by omega
                have hz1' : (0 : Int) < (X.size : Int) := by omega
                have hxc : bs X = X[0] :: (bs X).drop 1 := by have := drop_at X 0 hz; rwa [List.drop_zero] at this
                by_cases h35 : (X[0].toNat : Int) = 35
                · have h35' : ((X[0].toNat : Int) == 35) = true := by simpa using h35
                  have HN : Hid (PL s w wr ov (j + 1) (j + 1) (n + 1) acc) := HP.out.skip (bel0 _) (lines_to hle (by rw [HCUT.out, read_skip (by rw [hxc]; simp [hd, nb, h35])]))
                  clear h35 hxc HP PL1 PL2 PL3 HLN HCUT
                  go_wp2
                  go_roundw
                  case rel => exact ⟨hb, j + 1, j + 1, n + 1, acc, _, rfl, by omega, by omega, by omega, by omega, by go_num, by go_num, by go_num, HN⟩
                  case measure => simp [intOf]; omega
                · have h35' : ((X[0].toNat : Int) == 35) = false := by simpa using h35
                  have hsk : ((bs X).isEmpty || hd (bs X) == 35) = false := by rw [hxc]; simp [hd, nb, h35]
                  cases hlp : lineP (bs X) with
                  | none =>
                    have HF : Hid (parseP (bs s) = ⟨[], 250, n + 1⟩) := PL1.out _ (by rw [HCUT.out, read_bad hsk hlp])
                    rw [hlp] at HLN
                    unfold pvO pv zeroPar at HLN
                    simp only [Option.getD_none, Option.isSome_none] at HLN
                    clear hsk hxc h35 hlp HP PL1 PL2 PL3 HCUT
                    go_wp2_with (go_at_call 31; refine (HLN.out _).mono ?_; rintro e w2 ⟨rfl, hb2⟩)
                    go_ret3
                    rw [HF.out]
                    exact ⟨_, by simp, own_nil _ _, bel (bel hb hb2) (bel_alloc _ _)⟩
                  | some p =>
                    have hmay := line_may hlp
                    have hln : LinesAt s (acc ++ [p]) (n + 1) (j + 1) (j + 1) := lines_to hle (by rw [HCUT.out, read_par hsk hlp])
                    rw [hlp] at HLN
                    unfold pvO pv at HLN
                    simp only [Option.getD_some, Option.isSome_some] at HLN
                    obtain ⟨A, K, L⟩ := p
                    simp only at HLN
                    have HNX : Hid (LinesAt s (acc ++ [⟨A, K, L⟩]) (n + 1) (j + 1) (j + 1) ∧ mayP ⟨A, K, L⟩ = true) := ⟨hln, hmay⟩
                    clear hsk hxc h35 hlp hmay hln PL1 PL2 PL3 HCUT
                    go_wp2_with (first
                      | (go_at_call 31; refine (HLN.out _).mono ?_; rintro e w2 ⟨rfl, hb2⟩; have HO2 : Hid (Own w2 w.heap.size ov acc) := HP.out.own.below hb2; have sz2 := hb2.size)
                      | (at_builtin; refine wpList_append_own_at _ rfl _ _ 22 rfl w.heap.size 30 i0 _ 3 32 Tryd.underlying22 hi0 hz0 hz1 hz2 rfl (by decide) ov acc.length (cellsOf acc) rfl (World.ownsRow.alloc (World.ownsRow.alloc HO2.out _) _) ⟨w2.heap.size + 1, 0, none⟩ 1 1 [.string A, .int .i64 K, .int .i64 L] rfl rfl (news2 w2 _ #[.string A, .int .i64 K, .int .i64 L] 30) (by simp [Value.oneCell']) (by unfold maxLen; omega) (by omega) (by simp; omega) ?_; intro v' w3 hown3 hgrow hnil hat; have HO3 : Hid (w3.ownsRow w.heap.size 30 3 v' (acc.length + 1) (cellsOf acc ++ [.string A, .int .i64 K, .int .i64 L]) ∧ ((w2.alloc (.cells #[.string A, .int .i64 K, .int .i64 L] 30)).alloc (.cells #[.string A, .int .i64 K, .int .i64 L] 30)).grownBy w3 ov.ownBlock) := ⟨hown3, hgrow⟩; clear hown3 hgrow hnil hat))
                    go_roundw
                    case rel =>
                      obtain ⟨ho3, hgrow⟩ := HO3.out
                      have hob := HO2.out.lt
                      refine ⟨Below.grown (((bel hb hb2).alloc (by omega) _).alloc (by simp; omega) _) hgrow (by simp; omega) (fun q e => (hob q e).1), j + 1, j + 1, n + 1, acc ++ [⟨A, K, L⟩], _, rfl, by omega, by omega, by omega, by simp; omega, by go_num, by go_num, by go_num, ⟨?_, ?_, HNX.out.1⟩⟩
                      · unfold Own
                        rw [cellsOf_snoc, List.length_append]
                        exact ho3
                      · intro q hq
                        rcases List.mem_append.1 hq with hq | hq
                        · exact HP.out.may q hq
                        · simp at hq; subst hq; exact HNX.out.2
                    case measure => simp [intOf]; omega
      · have hjs : j = s.size + 1 := by omega
        have hfin : readAll s = ⟨acc, 0, 0⟩ := by
          rcases HP.out.lines with ⟨h, _⟩ | ⟨_, h⟩
          · omega
          · exact h
        have j4 : ¬ ((j : Int) ≤ (s.size : Int)) := by omega
        have hal : acc.length ≤ 65537 := by omega
        have KC := rCheck_any ov acc (by omega) (fun p hp => by have := may_size (HP.out.may p hp); omega) wr HP.out.own.rd
        obtain ⟨C, hC⟩ : ∃ C, checkP acc = C := ⟨_, rfl⟩
        rw [hC] at KC
        have HK : Hid (Calls Tryd.prog 12 #[ov] wr fun e w' => e = .returned (.int .i64 C) ∧ Below wr.heap.size wr w') := KC
        clear KC
        by_cases hC0 : C = 0
        · have HF : Hid (parseP (bs s) = ⟨acc, 0, 0⟩) := PL3.out acc hfin (by rw [hC]; exact hC0)
          subst hC0
          clear hfin hC PL1 PL2 PL3
          go_wp2_with (go_at_call 12; refine HK.out.mono ?_; rintro e w2 ⟨rfl, hb2⟩)
          go_ret3
          rw [HF.out]
          exact ⟨_, rfl, HP.out.own.below hb2, bel hb hb2⟩
        · have HF : Hid (parseP (bs s) = ⟨[], C, 0⟩) := by
            have := PL2.out acc hfin (by rw [hC]; exact hC0)
            rw [hC] at this
            exact this
          have hC1 : (C == 0) = false := by simpa using hC0
          have hC2 : (C != 0) = true := by simpa using hC0
          clear hfin hC hC0 PL1 PL2 PL3
          go_wp2_with (go_at_call 12; refine HK.out.mono ?_; rintro e w2 ⟨rfl, hb2⟩)
          go_ret3
          rw [HF.out]
          exact ⟨_, rfl, own_nil _ _, bel hb hb2⟩

end Go.Proofs.YtmpfoajpafglgaaDoor
