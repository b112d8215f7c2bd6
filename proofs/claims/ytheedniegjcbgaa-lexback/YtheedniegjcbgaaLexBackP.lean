import Derived.Test.YtheedniegjcbgaaLexShow
/- Scan of Show: no program in it. -/
namespace Go.Proofs.Ytheedniegjcbgaa
set_option linter.unusedVariables false
set_option linter.unusedSimpArgs false

/-- What may follow: nothing, or a blank. -/
def Aft (z : Bs) : Prop := hd z = 0 ∨ hd z = 32
theorem aft_p {z : Bs} (h : Aft z) (p : Int → Bool) (h0 : p 0 = false) (h1 : p 32 = false) : p (hd z) = false := by
  rcases h with h | h <;> rw [h] <;> assumption
theorem run_hd0 (p : Int → Bool) (z : Bs) (h : p (hd z) = false) : run p z = 0 := by
  cases z with
  | nil => rfl
  | cons b t => rw [run, if_neg (by rw [show p (nb b) = false from h]; simp)]
theorem run_same (p : Int → Bool) (z : Bs) (hz : p (hd z) = false) : ∀ (r : Bs) (m : Nat), run p r ≤ m → run p (r.take m ++ z) = run p r
  | [], m, _ => by rw [List.take_nil, List.nil_append]; exact run_hd0 p z hz
  | b :: t, 0, h => by
    have h' : run p (b :: t) = 0 := by omega
    rw [List.take_zero, List.nil_append, run_hd0 p z hz, h']
  | b :: t, m + 1, h => by
    rw [List.take_succ_cons, List.cons_append]
    rw [run] at h ⊢
    rw [run]
    by_cases hb : p (nb b) = true
    · rw [if_pos hb] at h ⊢
      rw [if_pos hb, run_same p z hz t m (by omega)]
    · rw [if_neg hb, if_neg hb]
theorem run_lt (p : Int → Bool) (z : Bs) : ∀ (r : Bs) (m : Nat), run p r < m → m ≤ r.length → run p (r.take m ++ z) = run p r
  | [], m, h, h' => by simp at h'; omega
  | b :: t, 0, h, _ => by omega
  | b :: t, m + 1, h, h' => by
    rw [List.take_succ_cons, List.cons_append]
    rw [run] at h ⊢
    rw [run]
    by_cases hb : p (nb b) = true
    · rw [if_pos hb] at h ⊢
      rw [if_pos hb, run_lt p z t m (by omega) (by simpa using h')]
    · rw [if_neg hb, if_neg hb]
theorem drop_tz (r z : Bs) (m k : Nat) (h : k ≤ m) (hm : m ≤ r.length) : (r.take m ++ z).drop k = (r.drop k).take (m - k) ++ z := by
  rw [List.drop_append_of_le_length (by rw [List.length_take]; omega), List.drop_take]
theorem hd_tz (r z : Bs) (m : Nat) (h : 1 ≤ m) (hm : m ≤ r.length) : hd (r.take m ++ z) = hd r := by
  cases r with
  | nil => simp at hm; omega
  | cons b t =>
    obtain ⟨m', rfl⟩ : ∃ m', m = m' + 1 := ⟨m - 1, by omega⟩
    rfl

theorem beh_stay (kind : Int) (k : Nat) (x z : Bs) (hz : Aft z) {s : Scan1} (h : behindL kind k x = s) (he : s.err = 0) : s = ⟨kind, k, 0⟩ ∧ behindL kind k z = s := by
  subst h
  obtain ⟨h1, h2, _, _⟩ := behindL_len he
  refine ⟨h1, ?_⟩
  rw [h1]
  unfold behindL
  rw [if_neg (by rw [aft_p hz pLetter rfl rfl, aft_p hz (fun c => c == 46) rfl rfl]; simp)]
  unfold fitL
  rw [if_neg (by omega)]
theorem exp_stay (k : Nat) (x z : Bs) (hz : Aft z) {s : Scan1} (h : expL k x = s) (he : s.err = 0) : ∃ n, s.len = k + n ∧ 1 ≤ n ∧ n ≤ x.length ∧ expL k (x.take n ++ z) = s := by
  unfold expL at h
  by_cases hd1 : pDigit (hd x) = true
  · rw [if_pos hd1] at h
    have hx := hd_ne pDigit rfl x hd1
    have hn := run_pos pDigit x (by intro e; rw [e] at hx; exact absurd hx (by decide)) hd1
    have hle := run_le pDigit x
    obtain ⟨e1, e2⟩ := beh_stay _ _ _ z hz h he
    refine ⟨run pDigit x, by rw [e1], hn, hle, ?_⟩
    unfold expL
    rw [hd_tz x z _ hn hle, if_pos hd1, run_same pDigit z (aft_p hz pDigit rfl rfl) x _ (Nat.le_refl _), drop_tz x z _ _ (Nat.le_refl _) hle, Nat.sub_self, List.take_zero, List.nil_append]
    exact e2
  · rw [if_neg hd1] at h
    rw [← h] at he
    exact absurd he (by decide)
theorem tail_stay (kind : Int) (k : Nat) (x z : Bs) (hz : Aft z) {s : Scan1} (h : tailL kind k x = s) (he : s.err = 0) : ∃ n, s.len = k + n ∧ n ≤ x.length ∧ tailL kind k (x.take n ++ z) = s ∧ (n = 0 → pExponent (hd x) = false) := by
  unfold tailL at h
  by_cases hE : pExponent (hd x) = true
  · rw [if_pos hE] at h
    have hx := hd_ne pExponent rfl x hE
    unfold expoL at h
    by_cases hS : pSign (hd (x.drop 1)) = true
    · rw [if_pos hS] at h
      have hx1 := hd_ne pSign rfl _ hS
      rw [List.length_drop] at hx1
      obtain ⟨n, h1, h2, h3, h4⟩ := exp_stay _ _ z hz h he
      rw [List.length_drop] at h3
      refine ⟨2 + n, by omega, by omega, ?_, fun h => by omega⟩
      unfold tailL expoL
      rw [hd_tz x z _ (by omega) (by omega), if_pos hE, drop_tz x z (2 + n) 1 (by omega) (by omega), drop_tz x z (2 + n) 2 (by omega) (by omega), hd_tz _ z _ (by omega) (by rw [List.length_drop]; omega), if_pos hS, show 2 + n - 2 = n by omega]
      exact h4
    · rw [if_neg hS] at h
      obtain ⟨n, h1, h2, h3, h4⟩ := exp_stay _ _ z hz h he
      rw [List.length_drop] at h3
      refine ⟨1 + n, by omega, by omega, ?_, fun h => by omega⟩
      unfold tailL expoL
      rw [hd_tz x z _ (by omega) (by omega), if_pos hE, drop_tz x z (1 + n) 1 (by omega) (by omega), hd_tz _ z _ (by omega) (by rw [List.length_drop]; omega), if_neg hS, show 1 + n - 1 = n by omega]
      exact h4
  · rw [if_neg hE] at h
    obtain ⟨e1, e2⟩ := beh_stay _ _ _ z hz h he
    refine ⟨0, by rw [e1]; rfl, Nat.zero_le _, ?_, fun _ => by simpa using hE⟩
    rw [List.take_zero, List.nil_append]
    unfold tailL
    rw [if_neg (by rw [aft_p hz pExponent rfl rfl]; simp)]
    exact e2
theorem num_stay (x z : Bs) (hz : Aft z) (hd0 : pDigit (hd x) = true) {s : Scan1} (h : numL x = s) (he : s.err = 0) : numL (x.take s.len ++ z) = s := by
  have hx := hd_ne pDigit rfl x hd0
  have hle := run_le pDigit x
  have zd := aft_p hz pDigit rfl rfl
  obtain ⟨d, hd'⟩ : ∃ d, run pDigit x = d := ⟨_, rfl⟩
  unfold numL at h
  rw [hd'] at h hle
  by_cases hP : (hd (x.drop d) == 46) = true
  · rw [if_pos hP] at h
    have hx1 := hd_ne (fun c => c == 46) rfl _ hP
    rw [List.length_drop] at hx1
    by_cases hD : pDigit (hd (x.drop (d + 1))) = true
    · rw [if_pos hD] at h
      have hx2 := hd_ne pDigit rfl _ hD
      have hn2 := run_pos pDigit _ (by intro e; rw [e] at hx2; exact absurd hx2 (by decide)) hD
      have hle2 := run_le pDigit (x.drop (d + 1))
      rw [List.length_drop] at hx2 hle2
      obtain ⟨d2, hd2⟩ : ∃ d2, run pDigit (x.drop (d + 1)) = d2 := ⟨_, rfl⟩
      rw [hd2] at h hn2 hle2
      obtain ⟨n, h1, h3, h4, _⟩ := tail_stay _ _ _ z hz h he
      rw [List.length_drop] at h3
      rw [h1]
      unfold numL
      rw [run_same pDigit z zd x _ (by omega), hd', drop_tz x z _ d (by omega) (by omega), hd_tz _ z _ (by omega) (by rw [List.length_drop]; omega), if_pos hP, drop_tz x z _ (d + 1) (by omega) (by omega),
        hd_tz _ z _ (by omega) (by rw [List.length_drop]; omega), if_pos hD, run_same pDigit z zd _ _ (by rw [hd2]; omega), hd2, drop_tz x z _ (d + 1 + d2) (by omega) (by omega), show d + 1 + d2 + n - (d + 1 + d2) = n by omega]
      exact h4
    · rw [if_neg hD] at h
      rw [← h] at he
      exact absurd he (by decide)
  · rw [if_neg hP] at h
    obtain ⟨n, h1, h3, h4, h5⟩ := tail_stay _ _ _ z hz h he
    rw [List.length_drop] at h3
    rw [h1]
    unfold numL
    rw [run_same pDigit z zd x _ (by omega), hd', drop_tz x z _ d (by omega) (by omega), show d + n - d = n by omega]
    have h46 : ¬ ((hd ((x.drop d).take n ++ z) == 46) = true) := by
      by_cases h0 : n = 0
      · rw [h0, List.take_zero, List.nil_append, aft_p hz (fun c => c == 46) rfl rfl]; simp
      · rw [hd_tz _ z _ (by omega) (by rw [List.length_drop]; omega)]; exact hP
    rw [if_neg h46]
    exact h4
theorem tok_stay (r z : Bs) (hz : Aft z) (h0 : r ≠ []) (he : (tokL r).err = 0) : tokL (r.take (tokL r).len ++ z) = tokL r := by
  have ok := okay_tok r h0 he
  have hhd : hd (r.take (tokL r).len ++ z) = hd r := hd_tz r z _ ok.1 ok.2.1
  obtain ⟨s, hs⟩ : ∃ s, tokL r = s := ⟨_, rfl⟩
  rw [hs] at ok hhd he ⊢
  unfold tokL at hs ⊢
  rw [hhd]
  by_cases hL : pLetter (hd r) = true
  · rw [if_pos hL] at hs ⊢
    rw [← hs] at he
    have e := (fitL_len he).1
    rw [hs] at e
    rw [e]
    simp only
    rw [run_same pInName z (aft_p hz pInName rfl rfl) r _ (Nat.le_refl _), hs, e]
  · rw [if_neg hL] at hs ⊢
    by_cases hD : pDigit (hd r) = true
    · rw [if_pos hD] at hs ⊢
      exact num_stay r z hz hD hs he
    · rw [if_neg hD] at hs ⊢
      by_cases hQ : (hd r == 34) = true
      · rw [if_pos hQ] at hs ⊢
        obtain ⟨n, hn⟩ : ∃ n, run pInText (r.drop 1) = n := ⟨_, rfl⟩
        rw [hn] at hs
        by_cases hF : (hd (r.drop (1 + n)) == 34) = true
        · rw [if_pos hF] at hs
          rw [← hs] at he
          have e := (fitL_len he).1
          rw [hs] at e
          rw [e] at ok ⊢
          simp only at ok ⊢
          have l2 := ok.2.1
          rw [drop_tz r z _ 1 (by omega) (by omega), run_lt pInText z _ _ (by rw [hn]; omega) (by rw [List.length_drop]; omega), hn, drop_tz r z _ (1 + n) (by omega) (by omega), hd_tz _ z _ (by omega) (by rw [List.length_drop]; omega), if_pos hF, hs, e]
        · rw [if_neg hF] at hs
          rw [← hs] at he
          exact absurd he (by decide)
      · rw [if_neg hQ] at hs ⊢
        exact hs

/-- A token's bytes: wherever a blank or nothing follows they are that token. -/
def Good (p : Bs) (K : Int) (X : Bs) : Prop :=
  p ≠ [] ∧ X = textOf K p ∧ piece K X = some p ∧ ∀ z, Aft z → tokL (p ++ z) = ⟨K, p.length, 0⟩ ∧ skp false (p ++ z) = p ++ z

theorem start_not {r : Bs} (h : (tokL r).err = 0) (h0 : r ≠ []) : pBlank (hd r) = false ∧ hd r ≠ 35 := by
  unfold tokL at h
  have lt : ∀ c : Int, pLetter c = true → pBlank c = false ∧ c ≠ 35 := fun c h => by
    simp [pLetter] at h
    refine ⟨?_, by omega⟩
    simp [pBlank]; omega
  have dg : ∀ c : Int, pDigit c = true → pBlank c = false ∧ c ≠ 35 := fun c h => by
    simp [pDigit] at h
    refine ⟨?_, by omega⟩
    simp [pBlank]; omega
  split at h
  · rename_i c; exact lt _ c
  · split at h
    · rename_i c; exact dg _ c
    · split at h
      · rename_i c
        have : hd r = 34 := by simpa using c
        rw [this]; exact ⟨rfl, by decide⟩
      · split at h
        · rename_i c
          rcases mark_val _ c with e | e | e | e | e | e <;> rw [e] <;> exact ⟨rfl, by decide⟩
        · exact absurd h (by decide)
theorem piece_tok (r : Bs) (h0 : r ≠ []) (h : (tokL r).err = 0) : piece (tokL r).kind (textOf (tokL r).kind (r.take (tokL r).len)) = some (r.take (tokL r).len) := by
  have ok := okay_tok r h0 h
  have hq := quo_tok r h0 h
  by_cases h4 : (tokL r).kind = 4
  · rw [h4] at hq ⊢
    exact congrArg some hq
  · rw [textOf_ne h4]
    by_cases h3 : (tokL r).kind ≤ 3
    · exact piece_tx (by omega)
    · -- a mark
      have hk : ∃ b t, r = b :: t ∧ (tokL r).len = 1 ∧ 0 ≤ markOf (nb b) ∧ (tokL r).kind = 5 + markOf (nb b) := by
        cases r with
        | nil => exact absurd rfl h0
        | cons b t =>
          refine ⟨b, t, rfl, ?_⟩
          have e : hd (b :: t) = nb b := rfl
          unfold tokL at h h3 h4 ⊢
          by_cases hL : pLetter (hd (b :: t)) = true
          · rw [if_pos hL] at h h3
            rw [(fitL_len h).1] at h3
            exact absurd (show (1 : Int) ≤ 3 by decide) h3
          · rw [if_neg hL] at h h3 h4 ⊢
            by_cases hD : pDigit (hd (b :: t)) = true
            · rw [if_pos hD] at h h3
              have := numL_kind _ h
              omega
            · rw [if_neg hD] at h h3 h4 ⊢
              by_cases hQ : (hd (b :: t) == 34) = true
              · rw [if_pos hQ] at h h4
                split at h
                · rename_i c
                  rw [if_pos c, (fitL_len h).1] at h4
                  exact absurd rfl h4
                · exact absurd h (by decide)
              · rw [if_neg hQ] at h ⊢
                split at h
                · rename_i c
                  rw [if_pos c]
                  exact ⟨rfl, c, rfl⟩
                · exact absurd h (by decide)
      obtain ⟨b, t, rfl, hl, hm, hkk⟩ := hk
      rw [hl, hkk]
      have key : ∀ c : UInt8, nb b = nb c → b = c := fun c e => nb_inj e
      rcases mark_val _ hm with e | e | e | e | e | e
      · have := key 40 e; subst this; rfl
      · have := key 41 e; subst this; rfl
      · have := key 44 e; subst this; rfl
      · have := key 61 e; subst this; rfl
      · have := key 45 e; subst this; rfl
      · have := key 59 e; subst this; rfl
theorem good_tok (r : Bs) (h0 : r ≠ []) (h : (tokL r).err = 0) : Good (r.take (tokL r).len) (tokL r).kind (textOf (tokL r).kind (r.take (tokL r).len)) := by
  have ok := okay_tok r h0 h
  have hlen : (r.take (tokL r).len).length = (tokL r).len := by rw [List.length_take]; have := ok.2.1; omega
  refine ⟨?_, rfl, piece_tok r h0 h, fun z hz => ?_⟩
  · intro e
    rw [e] at hlen
    have := ok.1
    simp at hlen
    omega
  · refine ⟨?_, ?_⟩
    · rw [tok_stay r z hz h0 h, hlen]
      show tokL r = ⟨(tokL r).kind, (tokL r).len, 0⟩
      rw [show (0 : Int) = (tokL r).err from h.symm]
    · have sn := start_not h h0
      refine skp_stop _ ?_ ?_ <;> rw [hd_tz r z _ ok.1 ok.2.1]
      · exact sn.1
      · exact sn.2
theorem scanF_good (n : Nat) : ∀ (f : Nat) (r : Bs), ∀ t ∈ (scanF n f r).toks, ∃ p, Good p t.kind t.text
  | f, [], t, h => by rw [scanF_nil] at h; cases h
  | 0, b :: r, t, h => by cases h
  | f + 1, b :: r, t, h => by
    by_cases he : (tokL (b :: r)).err = 0
    · rw [scanF_tok n f _ (by simp) he] at h
      rcases List.mem_cons.1 h with h | h
      · rw [h]; exact ⟨_, good_tok (b :: r) (by simp) he⟩
      · exact scanF_good n f _ t h
    · rw [scanF_err n f _ (by simp) he] at h; cases h

def kt (t : Tok) : Int × Bs := (t.kind, t.text)
theorem pieces_cons {t : Tok} {ts : List Tok} {p : Bs} (h : piece t.kind t.text = some p) : pieces (t :: ts) = p :: pieces ts := by
  unfold pieces
  rw [List.filterMap_cons, h]
theorem join_skp (ts : List Tok) (hg : ∀ t ∈ ts, ∃ p, Good p t.kind t.text) : skp false (joinB (pieces ts)) = joinB (pieces ts) := by
  cases ts with
  | nil => rfl
  | cons t ts =>
    obtain ⟨p, g0, g1, g2, g3⟩ := hg t (by simp)
    rw [pieces_cons g2]
    cases hq : pieces ts with
    | nil =>
      have := (g3 [] (.inl rfl)).2
      rw [List.append_nil] at this
      exact this
    | cons q qs => exact (g3 (32 :: joinB (q :: qs)) (.inr rfl)).2
theorem scan_join (n : Nat) : ∀ (ts : List Tok), (∀ t ∈ ts, ∃ p, Good p t.kind t.text) → ∀ f, (joinB (pieces ts)).length ≤ f →
    (scanF n f (joinB (pieces ts))).err = 0 ∧ (scanF n f (joinB (pieces ts))).toks.map kt = ts.map kt
  | [], _, f, _ => by
    rw [show joinB (pieces []) = [] from rfl, scanF_nil]
    exact ⟨rfl, rfl⟩
  | t :: ts, hg, f, hf => by
    obtain ⟨p, g0, g1, g2, g3⟩ := hg t (by simp)
    have hg' : ∀ u ∈ ts, ∃ p, Good p u.kind u.text := fun u hu => hg u (by simp [hu])
    have ih := scan_join n ts hg'
    have hsk := join_skp ts hg'
    rw [pieces_cons g2] at hf ⊢
    -- what follows the piece
    obtain ⟨z, hz, hj, hdz⟩ : ∃ z, Aft z ∧ joinB (p :: pieces ts) = p ++ z ∧ skp false z = joinB (pieces ts) := by
      cases hq : pieces ts with
      | nil => exact ⟨[], .inl rfl, by simp [joinB], rfl⟩
      | cons q qs =>
        refine ⟨32 :: joinB (q :: qs), .inr rfl, rfl, ?_⟩
        rw [hq] at hsk
        rw [skp, if_pos (by decide)]
        exact hsk
    rw [hj] at hf ⊢
    have hp : 1 ≤ p.length := by cases p with | nil => exact absurd rfl g0 | cons a b => simp
    rw [List.length_append] at hf
    obtain ⟨f', rfl⟩ : ∃ f', f = f' + 1 := ⟨f - 1, by omega⟩
    have ht := (g3 z hz).1
    have hne : p ++ z ≠ [] := by intro e; have := congrArg List.length e; rw [List.length_append] at this; have h' : p.length + z.length = 0 := this; omega
    rw [scanF_tok n f' _ hne (by rw [ht]), ht]
    simp only [List.drop_left, List.take_left, List.map_cons]
    have hzl : (skp false z).length ≤ f' := Nat.le_trans (skp_le _ _) (by omega)
    rw [hdz] at hzl ⊢
    have i := ih f' hzl
    refine ⟨i.1, ?_⟩
    rw [i.2]
    congr 1
    show (t.kind, textOf t.kind p) = (t.kind, t.text)
    rw [← g1]
theorem pieces_kt : ∀ (a b : List Tok), a.map kt = b.map kt → pieces a = pieces b
  | [], [], _ => rfl
  | [], _ :: _, h => by cases h
  | _ :: _, [], h => by cases h
  | x :: a, y :: b, h => by
    simp only [List.map_cons, List.cons.injEq, kt, Prod.mk.injEq] at h
    unfold pieces
    rw [List.filterMap_cons, List.filterMap_cons, h.1.1, h.1.2]
    have := pieces_kt a b h.2
    unfold pieces at this
    rw [this]
theorem show_kt (a b : List Tok) (h : a.map kt = b.map kt) : showP a = showP b := by unfold showP; rw [pieces_kt a b h]
theorem show_end (ts : List Tok) (n : Nat) : showP (ts ++ [⟨0, [], n⟩]) = joinB (pieces ts) := by
  unfold showP pieces
  rw [List.filterMap_append]
  simp [piece]
/-- LX3: Scan of Show. -/
theorem scan_show (l : Bs) (he : (scanP l).err = 0) (hlen : (showP (scanP l).toks).length ≤ 65536) :
    (scanP (showP (scanP l).toks)).err = 0 ∧ (scanP (showP (scanP l).toks)).toks.map kt = (scanP l).toks.map kt := by
  have hl : l.length ≤ 65536 ∧ (scan0 l).err = 0 := by
    unfold scanP at he
    split at he
    · exact absurd he (by decide)
    · split at he
      · rename_i h1 h2; exact absurd he h2
      · rename_i h1 h2; exact ⟨by omega, by simpa using h2⟩
  have ht := congrArg Scanned.toks (scan_ok hl.1 hl.2)
  simp only at ht
  have hg : ∀ t ∈ (scan0 l).toks, ∃ p, Good p t.kind t.text := scanF_good _ _ _
  rw [ht, show_end] at hlen
  rw [ht, show_end]
  obtain ⟨J, hJ⟩ : ∃ J, joinB (pieces (scan0 l).toks) = J := ⟨_, rfl⟩
  have sk := join_skp _ hg
  have sj := scan_join J.length _ hg J.length (by rw [hJ]; exact Nat.le_refl _)
  rw [hJ] at hlen sk sj ⊢
  have h0 : scan0 J = scanF J.length J.length J := by unfold scan0; rw [sk]
  rw [scan_ok hlen (by rw [h0]; exact sj.1), h0]
  refine ⟨rfl, ?_⟩
  rw [List.map_append, List.map_append, sj.2]
  rfl
theorem scanF_text (n : Nat) : ∀ (f : Nat) (r : Bs), ∀ t ∈ (scanF n f r).toks, t.text.length ≤ r.length
  | f, [], t, h => by rw [scanF_nil] at h; cases h
  | 0, b :: r, t, h => by cases h
  | f + 1, b :: r, t, h => by
    by_cases he : (tokL (b :: r)).err = 0
    · have ok := okay_tok (b :: r) (by simp) he
      rw [scanF_tok n f _ (by simp) he] at h
      rcases List.mem_cons.1 h with h | h
      · rw [h]
        simp only
        have hq := quo_len (tokL (b :: r)).kind (textOf (tokL (b :: r)).kind ((b :: r).take (tokL (b :: r)).len))
        rw [quo_tok (b :: r) (by simp) he, List.length_take] at hq
        split at hq <;> omega
      · have := scanF_text n f _ t h
        have h2 := skp_le false ((b :: r).drop (tokL (b :: r)).len)
        rw [List.length_drop] at h2
        omega
    · rw [scanF_err n f _ (by simp) he] at h; cases h
theorem scan_text (l : Bs) : ∀ t ∈ (scanP l).toks, t.text.length ≤ 1048576 := by
  intro t h
  unfold scanP at h
  split at h
  · cases h
  · rename_i hl
    split at h
    · cases h
    · rcases List.mem_append.1 h with h | h
      · have := scanF_text _ _ _ t h
        have h2 := skp_le false l
        omega
      · simp at h
        rw [h]
        exact Nat.zero_le _

end Go.Proofs.Ytheedniegjcbgaa
