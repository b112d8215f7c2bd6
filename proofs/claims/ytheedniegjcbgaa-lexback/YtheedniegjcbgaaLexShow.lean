import Derived.Test.YtheedniegjcbgaaLexBuild
/- Show, the program's and the reference's. -/
namespace Go.Proofs.Ytheedniegjcbgaa
open Go.RowKit
set_option linter.unusedVariables false
set_option linter.unusedSimpArgs false

def out1 (t : Tok) : Bs :=
  match piece t.kind t.text with
  | some x => x ++ [32]
  | none => []
def outAll (T : List Tok) : Bs := T.flatMap out1
def flat (ps : List Bs) : Bs := ps.flatMap fun x => x ++ [32]
theorem outAll_flat (T : List Tok) : outAll T = flat (pieces T) := by
  induction T with
  | nil => rfl
  | cons t T ih =>
    have e1 : outAll (t :: T) = out1 t ++ outAll T := by simp [outAll]
    rw [e1, ih]
    unfold pieces out1
    rw [List.filterMap_cons]
    cases piece t.kind t.text with
    | none => rfl
    | some x => simp [flat]
theorem flat_join : ∀ ps : List Bs, ps ≠ [] → flat ps = joinB ps ++ [32]
  | [], h => absurd rfl h
  | [x], _ => by simp [flat, joinB]
  | x :: y :: r, _ => by
    have ih := flat_join (y :: r) (by simp)
    have e : flat (x :: y :: r) = x ++ [32] ++ flat (y :: r) := by simp [flat]
    rw [e, ih, joinB]
    simp
theorem trim_out (T : List Tok) : Lib.trimSuffix (outAll T) [32] = showP T := by
  rw [outAll_flat]
  unfold showP
  by_cases h : pieces T = []
  · rw [h]; rfl
  · rw [flat_join _ h]
    unfold Lib.trimSuffix Lib.hasSuffix
    rw [if_pos (by simp)]
    simp
theorem take_succ {T : List Tok} {i : Nat} (h : i < T.length) : T.take (i + 1) = T.take i ++ [T[i]] := by
  rw [List.take_succ_eq_append_getElem h]
theorem outAll_succ {T : List Tok} {i : Nat} (h : i < T.length) : outAll (T.take (i + 1)) = outAll (T.take i) ++ out1 T[i] := by
  unfold outAll
  rw [take_succ h, List.flatMap_append]
  congr 1
  simp
theorem piece_len (k : Int) (x y : Bs) (h : piece k x = some y) : y.length ≤ x.length + 2 := by
  unfold piece at h
  split at h
  · cases h; omega
  · split at h
    · cases h; simp
    · split at h
      · cases h
        unfold markB
        repeat' split
        all_goals simp
      · cases h
theorem outAll_len (M : Nat) : ∀ T : List Tok, (∀ t ∈ T, t.text.length ≤ M) → (outAll T).length ≤ T.length * (M + 3)
  | [], _ => Nat.zero_le _
  | t :: T, h => by
    have ih := outAll_len M T fun u hu => h u (by simp [hu])
    have e1 : outAll (t :: T) = out1 t ++ outAll T := by simp [outAll]
    have ht := h t (by simp)
    have h1 : (out1 t).length ≤ M + 3 := by
      unfold out1
      cases hp : piece t.kind t.text with
      | none => simp
      | some x =>
        have := piece_len _ _ _ hp
        simp; omega
    rw [e1, List.length_append, List.length_cons, Nat.succ_mul]
    omega
theorem outAll_take (T : List Tok) (hN : T.length ≤ 1048577) (hM : ∀ t ∈ T, t.text.length ≤ 1048576) (i : Nat) : (outAll (T.take i)).length ≤ 1099515822083 := by
  have h := outAll_len 1048576 (T.take i) fun t ht => hM t (List.mem_of_mem_take ht)
  have h2 : (T.take i).length ≤ 1048577 := by rw [List.length_take]; omega
  have := Nat.mul_le_mul_right (1048576 + 3) h2
  omega

theorem piece_tx {k : Int} {x : Bs} (h : k = 1 ∨ k = 2 ∨ k = 3) : piece k x = some x := by rcases h with rfl | rfl | rfl <;> rfl
theorem piece_4 (x : Bs) : piece 4 x = some (34 :: (x ++ [34])) := rfl
theorem piece_none {k : Int} {x : Bs} (h : k < 1 ∨ 10 < k) : piece k x = none := by
  unfold piece
  rw [if_neg (by simp; omega), if_neg (by simp; omega), if_neg (by omega)]

theorem ret_sb {a c : ByteArray} {b d : Bool} (h : a = c) (g : b = d) : Ending.returned (.tuple #[.string a, .bool b]) = .returned (.tuple #[.string c, .bool d]) := by rw [h, g]
theorem quo4b (X : Bs) : ((⟨#[34]⟩ : ByteArray) ++ (⟨X.toArray⟩ : ByteArray)) ++ (⟨#[34]⟩ : ByteArray) = ⟨(34 :: (X ++ [34])).toArray⟩ := by
  apply ByteArray.ext
  simp

set_option maxRecDepth 100000 in
set_option maxHeartbeats 4000000 in
theorem shown_any (K : Int) (X : Bs) (A : Int) (hX : X.length ≤ 1048576) (w : World) :
    Calls Try.prog 22 #[.agg #[.int .i64 K, .string ⟨X.toArray⟩, .int .i64 A]] w fun e w' => e = .returned (.tuple #[.string ⟨((piece K X).getD []).toArray⟩, .bool (piece K X).isSome]) ∧ Below w.heap.size w w' := by
  by_cases h0 : K < 1 ∨ 10 < K
  · rw [piece_none h0]
    have b1 : (K == 1) = false := by rw [beq_eq_false_iff_ne]; omega
    have b2 : (K == 2) = false := by rw [beq_eq_false_iff_ne]; omega
    have b3 : (K == 3) = false := by rw [beq_eq_false_iff_ne]; omega
    have b4 : (K == 4) = false := by rw [beq_eq_false_iff_ne]; omega
    have b5 : (K == 5) = false := by rw [beq_eq_false_iff_ne]; omega
    have b6 : (K == 6) = false := by rw [beq_eq_false_iff_ne]; omega
    have b7 : (K == 7) = false := by rw [beq_eq_false_iff_ne]; omega
    have b8 : (K == 8) = false := by rw [beq_eq_false_iff_ne]; omega
    have b9 : (K == 9) = false := by rw [beq_eq_false_iff_ne]; omega
    have b10 : (K == 10) = false := by rw [beq_eq_false_iff_ne]; omega
    clear h0
    go_enter Try.func22, Try.ntmps22
    go_wp2
    go_ret2
    exact ⟨rfl, bel_alloc _ _⟩
  · obtain ⟨h1, h2⟩ := not_or.1 h0
    have hc : K = 1 ∨ K = 2 ∨ K = 3 ∨ K = 4 ∨ K = 5 ∨ K = 6 ∨ K = 7 ∨ K = 8 ∨ K = 9 ∨ K = 10 := by omega
    clear h0 h1 h2
    rcases hc with rfl | rfl | rfl | rfl | rfl | rfl | rfl | rfl | rfl | rfl
    · go_enter Try.func22, Try.ntmps22
      go_wp2
      go_ret2
      exact ⟨rfl, bel_alloc _ _⟩
    · go_enter Try.func22, Try.ntmps22
      go_wp2
      go_ret2
      exact ⟨rfl, bel_alloc _ _⟩
    · go_enter Try.func22, Try.ntmps22
      go_wp2
      go_ret2
      exact ⟨rfl, bel_alloc _ _⟩
    · go_enter Try.func22, Try.ntmps22
      go_wp2
      go_ret2
      exact ⟨ret_sb (quo4b X) rfl, bel_alloc _ _⟩
    · go_enter Try.func22, Try.ntmps22
      go_wp2
      go_ret2
      exact ⟨ret_sb (by rfl) rfl, bel_alloc _ _⟩
    · go_enter Try.func22, Try.ntmps22
      go_wp2
      go_ret2
      exact ⟨ret_sb (by rfl) rfl, bel_alloc _ _⟩
    · go_enter Try.func22, Try.ntmps22
      go_wp2
      go_ret2
      exact ⟨ret_sb (by rfl) rfl, bel_alloc _ _⟩
    · go_enter Try.func22, Try.ntmps22
      go_wp2
      go_ret2
      exact ⟨ret_sb (by rfl) rfl, bel_alloc _ _⟩
    · go_enter Try.func22, Try.ntmps22
      go_wp2
      go_ret2
      exact ⟨ret_sb (by rfl) rfl, bel_alloc _ _⟩
    · go_enter Try.func22, Try.ntmps22
      go_wp2
      go_ret2
      exact ⟨ret_sb (by rfl) rfl, bel_alloc _ _⟩

/-- A token's three cells, its place whatever number. -/
def AtG (w : World) (b o : Nat) (K : Int) (X : Bs) (A : Int) : Prop :=
  w.cell? ⟨b, o, none⟩ = some (.int .i64 K) ∧ w.cell? ⟨b, o + 1, none⟩ = some (.string ⟨X.toArray⟩) ∧ w.cell? ⟨b, o + 2, none⟩ = some (.int .i64 A)
theorem AtG.below {w w' : World} {b o : Nat} {K : Int} {X : Bs} {A : Int} (h : AtG w b o K X A) (k : Below w.heap.size w w') : AtG w' b o K X A :=
  ⟨(k.cell (mcell_lt h.1)).trans h.1, (k.cell (mcell_lt h.2.1)).trans h.2.1, (k.cell (mcell_lt h.2.2)).trans h.2.2⟩
def RowG (w : World) (p : Option Addr) (T : List Tok) (α : Nat → Int) : Prop :=
  T = [] ∨ ∃ b o, p = some ⟨b, o, none⟩ ∧ ∀ i (h : i < T.length), AtG w b (o + i * 3) T[i].kind T[i].text (α i)
/-- A slice that reads as tokens of these kinds and texts, at these places. -/
def RdG (w : World) (v : Value) (T : List Tok) (α : Nat → Int) : Prop := ∃ p c, v = .slice p T.length c ∧ RowG w p T α
theorem RowG.below {w w' : World} {p : Option Addr} {T : List Tok} {α : Nat → Int} (h : RowG w p T α) (k : Below w.heap.size w w') : RowG w' p T α :=
  h.imp id fun ⟨b, o, h1, h2⟩ => ⟨b, o, h1, fun i hi => (h2 i hi).below k⟩
theorem RdG.below {w w' : World} {v : Value} {T : List Tok} {α : Nat → Int} (h : RdG w v T α) (k : Below w.heap.size w w') : RdG w' v T α := by
  obtain ⟨p, c, hv, h⟩ := h
  exact ⟨p, c, hv, h.below k⟩
def atOf (T : List Tok) (i : Nat) : Int := if h : i < T.length then (T[i].at_ : Int) else 0
theorem Rd.g {w : World} {v : Value} {T : List Tok} (h : Rd w v T) : RdG w v T (atOf T) := by
  obtain ⟨p, c, hv, h⟩ := h
  refine ⟨p, c, hv, h.imp id fun ⟨b, o, h1, h2⟩ => ⟨b, o, h1, fun i hi => ?_⟩⟩
  have e : atOf T i = (T[i].at_ : Int) := by unfold atOf; rw [dif_pos hi]
  rw [e]
  exact h2 i hi

theorem Bd.old {B b : Nat} {l : Bs} {w : World} (h : Bd B b l w) : B ≤ w.heap.size := by
  rcases h with h | h <;> exact Nat.le_trans h.1 (Nat.le_of_lt h.lt)

set_option maxRecDepth 100000 in
set_option maxHeartbeats 4000000 in
theorem show_any (v : Value) (T : List Tok) (α : Nat → Int) (hN : T.length ≤ 1048577) (hM : ∀ t ∈ T, t.text.length ≤ 1048576) (w : World) (hr : RdG w v T α) :
    Calls Try.prog 13 #[v] w fun e w' => e = .returned (.string ⟨(showP T).toArray⟩) ∧ Below w.heap.size w w' := by
  obtain ⟨p, c, rfl, hr⟩ := hr
  obtain ⟨n, hn⟩ : ∃ n, T.length = n := ⟨_, rfl⟩
  rw [hn] at hN ⊢
  have HN : Hid (T.length = n) := hn
  have HR : Hid (RowG w p T α) := hr
  have HM : Hid (∀ t ∈ T, t.text.length ≤ 1048576) := hM
  have HL : Hid (∀ i, (outAll (T.take i)).length ≤ 1099515822083) := outAll_take T (by rw [hn]; exact hN) hM
  clear hn hr hM
  have hfr := Lib.fresh_isBuilder 47 5 w
  have HF : Hid (Bd w.heap.size w.heap.size [] (w.alloc (.cells #[.pointer none, .slice none 0 0] 47))) := hfr
  clear hfr
  go_enter Try.func13, Try.ntmps13
  go_wp2
  go_loopw [10] (fun iv wr => Below w.heap.size w wr ∧ ∃ i : Nat, i ≤ n ∧ iv = .int .i64 i ∧ Bd w.heap.size w.heap.size (outAll (T.take i)) wr) (fun iv _ => n - (intOf iv).toNat)
  case atStart => exact ⟨bel_alloc _ _, 0, Nat.zero_le _, rfl, HF.out⟩
  case round =>
    obtain ⟨hb, i, hi, rfl, hbd⟩ := hrel
    have HB : Hid (Bd w.heap.size w.heap.size (outAll (T.take i)) wr) := hbd
    clear hbd
    have szr := hb.size
    by_cases hlt : i < n
    · have hll : i < T.length := by rw [HN.out]; exact hlt
      rcases HR.out with h | ⟨bb, o, rfl, ha⟩
      · rw [h] at hll; exact absurd hll (Nat.not_lt_zero _)
      have hat := ha i hll
      have hbl := mcell_lt hat.1
      have x0 := (hb.cell hbl).trans hat.1
      have x1 := (hb.cell (p := ⟨bb, o + i * 3 + 1, none⟩) hbl).trans hat.2.1
      have x2 := (hb.cell (p := ⟨bb, o + i * 3 + 2, none⟩) hbl).trans hat.2.2
      have hs := outAll_succ hll
      have hm := HM.out T[i] (List.getElem_mem hll)
      have hl1 := HL.out (i + 1)
      rw [hs] at hl1
      unfold out1 at hs hl1
      obtain ⟨t, ht⟩ : ∃ t, T[i] = t := ⟨_, rfl⟩
      rw [ht] at x0 x1 hs hm hl1
      obtain ⟨K, X, A0⟩ := t
      simp only at x0 x1 hs hm hl1
      obtain ⟨A, hA⟩ : ∃ A, α i = A := ⟨_, rfl⟩
      rw [hA] at x2
      clear hA
      have SH := shown_any K X A hm
      have i1 : (0 : Int) ≤ (i : Int) := by omega
      have i2 : (i : Int) < (n : Int) := by omega
      clear ha hat ht
      cases hp : piece K X with
      | none =>
        rw [hp] at SH hs hl1
        simp only [List.append_nil] at hs
        have H1 : Hid (∀ v : World, Calls Try.prog 22 #[.agg #[.int .i64 K, .string ⟨X.toArray⟩, .int .i64 A]] v fun e w' => e = .returned (.tuple #[.string ⟨#[]⟩, .bool false]) ∧ Below v.heap.size v w') := SH
        have HS : Hid (outAll (T.take (i + 1)) = outAll (T.take i)) := hs
        clear SH hs hl1
        go_wp2_with (first
          | (go_at_call 22; refine (H1.out _).mono ?_; rintro e w2 ⟨rfl, hb2⟩))
        go_roundw
        case rel =>
          have hb3 : Below wr.heap.size wr w2 := bel (bel_alloc _ _) hb2
          exact ⟨bel hb hb3, i + 1, by omega, by go_num, by rw [HS.out]; exact HB.out.below hb3⟩
        case measure => simp [intOf]; omega
      | some x =>
        rw [hp] at SH hs hl1
        simp only [List.length_append, List.length_cons, List.length_nil] at hl1
        have H1 : Hid (∀ v : World, Calls Try.prog 22 #[.agg #[.int .i64 K, .string ⟨X.toArray⟩, .int .i64 A]] v fun e w' => e = .returned (.tuple #[.string ⟨x.toArray⟩, .bool true]) ∧ Below v.heap.size v w') := SH
        have HS : Hid (outAll (T.take (i + 1)) = outAll (T.take i) ++ (x ++ [32])) := hs
        clear SH hs
        go_wp2_with (first
          | (go_at_call 22; refine (H1.out _).mono ?_; rintro e w2 ⟨rfl, hb2⟩; have hb3 : Below wr.heap.size wr w2 := bel (bel_alloc _ _) hb2; have HB2 : Hid (Bd w.heap.size w.heap.size (outAll (T.take i)) w2) := HB.out.below hb3)
          | (go_at_call 23; refine (write_any w.heap.size w.heap.size (outAll (T.take i)) x _ HB2.out (by omega) HB2.out.old).mono ?_; rintro e w4 ⟨rfl, hbd4, hb4⟩; have HB4 : Hid (Bd w.heap.size w.heap.size (outAll (T.take i) ++ x) w4) := hbd4; clear hbd4)
          | (go_at_call 24; refine (byte_any w.heap.size w.heap.size (outAll (T.take i) ++ x) _ HB4.out (by rw [List.length_append]; omega) HB4.out.old).mono ?_; rintro e w5 ⟨rfl, hbd5, hb5⟩; have HB5 : Hid (Bd w.heap.size w.heap.size (outAll (T.take i) ++ x ++ [32]) w5) := hbd5; clear hbd5))
        go_roundw
        case rel => exact ⟨((bel hb hb3).trans hb4).trans hb5, i + 1, by omega, by go_num, by rw [HS.out, ← List.append_assoc]; exact HB5.out⟩
        case measure => simp [intOf]; omega
    · have : i = n := by omega
      subst this
      have hfin : outAll (T.take i) = outAll T := by rw [List.take_of_length_le (by rw [HN.out]; exact Nat.le_refl _)]
      have hl := HL.out i
      rw [hfin] at HB hl
      have hsz : (⟨(outAll T).toArray⟩ : ByteArray).size = (outAll T).length := by rw [← bs_length]; simp [bs]
      have TR : ∀ v : World, Calls Try.prog 25 #[.string ⟨(outAll T).toArray⟩, .string ⟨#[32]⟩] v fun e w' => e = .returned (.string ⟨(showP T).toArray⟩) ∧ w' = v := fun v => by
        have := sh_strings_TrimSuffix ⟨(outAll T).toArray⟩ ⟨#[32]⟩ v (by rw [hsz]; omega)
        rw [show (⟨(outAll T).toArray⟩ : ByteArray).data.toList = outAll T by simp, show (⟨#[32]⟩ : ByteArray).data.toList = [32] from rfl, trim_out] at this
        exact this
      have HT : Hid (∀ v : World, Calls Try.prog 25 #[.string ⟨(outAll T).toArray⟩, .string ⟨#[32]⟩] v fun e w' => e = .returned (.string ⟨(showP T).toArray⟩) ∧ w' = v) := TR
      clear TR hsz hfin hl
      go_wp2_with (first
        | (go_at_call 26; refine (sh_Builder_String_any w.heap.size w.heap.size (outAll T) _ HB.out HB.out.old).mono ?_; rintro e w2 ⟨rfl, hb2⟩)
        | (go_at_call 25; refine (HT.out _).mono ?_; rintro e w3 ⟨rfl, rfl⟩))
      go_ret
      exact ⟨rfl, hb.trans hb2⟩

end Go.Proofs.Ytheedniegjcbgaa
