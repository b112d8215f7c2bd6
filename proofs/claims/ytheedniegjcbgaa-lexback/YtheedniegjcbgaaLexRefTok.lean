import Derived.Test.YtheedniegjcbgaaLexSame
/- The reference: quoted, token. -/
namespace Go.Proofs.Ytheedniegjcbgaa
open Go.RowKit
set_option linter.unusedVariables false
set_option linter.unusedSimpArgs false

def qt1 (s : ByteArray) (i : Nat) : Int := if peekN s (pastN pInText s (i + 1)) == 34 then (if (pastN pInText s (i + 1) : Int) - i - 1 > 64 then 0 else (pastN pInText s (i + 1) : Int) + 1) else 0
def qt2 (s : ByteArray) (i : Nat) : Int := if peekN s (pastN pInText s (i + 1)) == 34 then (if (pastN pInText s (i + 1) : Int) - i - 1 > 64 then 2 else 0) else 61
theorem ret_2 {a b c d : Int} (h : a = b) (g : c = d) : Ending.returned (.tuple #[.int .i64 a, .int .i64 c]) = .returned (.tuple #[.int .i64 b, .int .i64 d]) := by rw [h, g]

set_option maxRecDepth 100000 in
set_option maxHeartbeats 1000000 in
theorem rquoted_any (s : ByteArray) (hs : s.size ≤ 65536) (i : Nat) (hi : i < s.size) (w : World) :
    Calls Try.prog 43 #[.string s, .int .i64 i] w fun e w' => e = .returned (.tuple #[.int .i64 (qt1 s i), .int .i64 (qt2 s i)]) ∧ w' = w := by
  go_enter Try.func43, Try.ntmps43
  go_wp2
  go_loopw [6] (fun kv wr => wr = w ∧ ∃ k : Nat, i < k ∧ k ≤ s.size ∧ kv = .int .i64 k ∧ pastN pInText s (i + 1) = pastN pInText s k) (fun kv _ => s.size - (intOf kv).toNat)
  case atStart => exact ⟨rfl, i + 1, by omega, by omega, by go_num, rfl⟩
  case round =>
    obtain ⟨rfl, k, hik, hk, rfl, hp⟩ := hrel
    have HP : Hid (pastN pInText s (i + 1) = pastN pInText s k) := hp
    clear hp
    by_cases hlt : k < s.size
    · have i1 : (0 : Int) ≤ (k : Int) := by omega
      have i2 : (k : Int) < (s.size : Int) := by omega
      have hv := peekN_at hlt
      have HV : Hid (peekN s k = (s[k].toNat : Int)) := hv
      clear hv
      by_cases h34 : (s[k].toNat : Int) = 34
      · have e1 : ((s[k].toNat : Int) != 34) = false := by simpa using h34
        have hst : pastN pInText s k = k := pastN_no hlt (by rw [h34]; rfl)
        have HQ : Hid (pastN pInText s (i + 1) = k) := HP.out.trans hst
        have H34 : Hid ((s[k].toNat : Int) = 34) := h34
        have i3 : ¬ ((k : Int) ≥ (s.size : Int)) := by omega
        clear h34 hst HP
        have e2 : (peekN s k == 34) = true := by rw [HV.out, H34.out]; rfl
        by_cases hc : (k : Int) - i - 1 > 64
        · have r1 : qt1 s i = 0 := by unfold qt1; rw [HQ.out, if_pos e2, if_pos hc]
          have r2 : qt2 s i = 2 := by unfold qt2; rw [HQ.out, if_pos e2, if_pos hc]
          go_wp2
          go_ret2
          first | exact ⟨rfl, rfl⟩ | exact ⟨ret_2 r1.symm r2.symm, rfl⟩
        · have r1 : qt1 s i = (k : Int) + 1 := by unfold qt1; rw [HQ.out, if_pos e2, if_neg hc]
          have r2 : qt2 s i = 0 := by unfold qt2; rw [HQ.out, if_pos e2, if_neg hc]
          go_wp2
          go_ret2
          first | exact ⟨rfl, rfl⟩ | exact ⟨ret_2 r1.symm r2.symm, rfl⟩
      · have e1 : ((s[k].toNat : Int) != 34) = true := by simpa using h34
        by_cases hin : pInText (s[k].toNat : Int) = true
        · have hst : pastN pInText s k = pastN pInText s (k + 1) := pastN_yes hlt hin
          have HQ : Hid (pastN pInText s (i + 1) = pastN pInText s (k + 1)) := HP.out.trans hst
          have hb : ¬ ((s[k].toNat : Int) < 32) ∧ ¬ ((s[k].toNat : Int) > 126) := by
            unfold pInText at hin
            simp at hin
            omega
          obtain ⟨b1, b2⟩ := hb
          clear hst HP hin h34
          go_wp2
          go_roundw
          case rel => exact ⟨by trivial, k + 1, by omega, by omega, by go_num, HQ.out⟩
          case measure => simp [intOf]; omega
        · have hst : pastN pInText s k = k := pastN_no hlt (by simpa using hin)
          have HQ : Hid (pastN pInText s (i + 1) = k) := HP.out.trans hst
          have e2 : ¬ ((peekN s k == 34) = true) := by rw [HV.out]; simpa using h34
          have r1 : qt1 s i = 0 := by unfold qt1; rw [HQ.out, if_neg e2]
          have r2 : qt2 s i = 61 := by unfold qt2; rw [HQ.out, if_neg e2]
          have hb : (s[k].toNat : Int) < 32 ∨ (s[k].toNat : Int) > 126 := by
            unfold pInText at hin
            simp at hin
            omega
          clear hst HP hin h34 e2 HQ
          have R : Hid (qt1 s i = 0 ∧ qt2 s i = 61) := ⟨r1, r2⟩
          clear r1 r2
          rcases hb with hb | hb
          · go_wp2
            go_ret2
            exact ⟨ret_2 R.out.1.symm R.out.2.symm, rfl⟩
          · have hb' : ¬ ((s[k].toNat : Int) < 32) := by omega
            go_wp2
            go_ret2
            exact ⟨ret_2 R.out.1.symm R.out.2.symm, rfl⟩
    · have : k = s.size := by omega
      subst this
      have hst : pastN pInText s s.size = s.size := pastN_end (Nat.le_refl _)
      have e2 : ¬ ((peekN s s.size == 34) = true) := by rw [peekN_end (Nat.le_refl _)]; simp
      have r1 : qt1 s i = 0 := by unfold qt1; rw [HP.out, hst, if_neg e2]
      have r2 : qt2 s i = 61 := by unfold qt2; rw [HP.out, hst, if_neg e2]
      clear hst e2
      go_wp2
      go_ret2
      first | exact ⟨rfl, rfl⟩ | exact ⟨ret_2 r1.symm r2.symm, rfl⟩

/- Marks. -/
def mkB : ByteArray := ⟨#[40, 41, 44, 61, 45, 59]⟩
theorem mk_size : mkB.size = 6 := rfl
theorem mk_of : ∀ k : Fin 6, markOf ((mkB[k.val]'(by rw [mk_size]; exact k.2)).toNat : Int) = k.val := of_decide_eq_true (by kernel_rfl)
theorem mark_hit (k : Nat) (h : k < mkB.size) (c : Int) (e : ((mkB[k]'h).toNat : Int) = c) : markOf c = k := by
  rw [← e]
  exact mk_of ⟨k, h⟩
theorem mark_val (c : Int) (h : 0 ≤ markOf c) : c = 40 ∨ c = 41 ∨ c = 44 ∨ c = 61 ∨ c = 45 ∨ c = 59 := by
  unfold markOf at h
  repeat' split at h
  all_goals simp_all
theorem mark_not (c : Int) (h : 0 ≤ markOf c) : pLetter c = false ∧ pDigit c = false ∧ (c == 34) = false := by
  rcases mark_val c h with rfl | rfl | rfl | rfl | rfl | rfl <;> exact ⟨rfl, rfl, rfl⟩
theorem mark_at (c : Int) (k : Nat) (h : k < mkB.size) (e : markOf c = k) : ((mkB[k]'h).toNat : Int) = c := by
  have h0 : 0 ≤ markOf c := by rw [e]; omega
  have hk : k < 6 := h
  rcases mark_val c h0 with rfl | rfl | rfl | rfl | rfl | rfl
  · have : k = 0 := by have e' : (0 : Int) = k := e; omega
    subst this; rfl
  · have : k = 1 := by have e' : (1 : Int) = k := e; omega
    subst this; rfl
  · have : k = 2 := by have e' : (2 : Int) = k := e; omega
    subst this; rfl
  · have : k = 3 := by have e' : (3 : Int) = k := e; omega
    subst this; rfl
  · have : k = 4 := by have e' : (4 : Int) = k := e; omega
    subst this; rfl
  · have : k = 5 := by have e' : (5 : Int) = k := e; omega
    subst this; rfl

/-- A token as a value. -/
def aggT (k : Int) (x : Bs) (i : Nat) : Value := .agg #[.int .i64 k, .string ⟨x.toArray⟩, .int .i64 (i : Int)]
/-- What the reference's token tells. -/
def rtok (s : ByteArray) (i : Nat) : Value :=
  if (tokL ((bs s).drop i)).err = 0 then .tuple #[aggT (tokL ((bs s).drop i)).kind (textOf (tokL ((bs s).drop i)).kind (((bs s).drop i).take (tokL ((bs s).drop i)).len)) i, .int .i64 ((i : Int) + (tokL ((bs s).drop i)).len), .int .i64 0]
  else .tuple #[.agg #[.int .i64 0, .string ⟨#[]⟩, .int .i64 0], .int .i64 0, .int .i64 (tokL ((bs s).drop i)).err]

theorem numL_kind (r : Bs) : (numL r).err = 0 → (numL r).kind = 2 ∨ (numL r).kind = 3 := by
  have beh : ∀ k m x, (k = 2 ∨ k = 3) → (behindL k m x).err = 0 → (behindL k m x).kind = 2 ∨ (behindL k m x).kind = 3 := fun k m x hk h => by rw [(behindL_len h).1]; exact hk
  have ex : ∀ m x, (expL m x).err = 0 → (expL m x).kind = 2 ∨ (expL m x).kind = 3 := fun m x => by
    unfold expL
    split
    · exact beh _ _ _ (.inl rfl)
    · intro h; exact absurd h (by decide)
  have tl : ∀ k m x, (k = 2 ∨ k = 3) → (tailL k m x).err = 0 → (tailL k m x).kind = 2 ∨ (tailL k m x).kind = 3 := fun k m x hk => by
    unfold tailL expoL
    split
    · split <;> exact ex _ _
    · exact beh _ _ _ hk
  unfold numL
  split
  · split
    · exact tl _ _ _ (.inl rfl)
    · intro h; exact absurd h (by decide)
  · exact tl _ _ _ (.inr rfl)
theorem ext_eq (s : ByteArray) (a b : Nat) : s.extract a b = ⟨(((bs s).drop a).take (b - a)).toArray⟩ := by rw [of_bs (s.extract a b), bs_extract]
theorem rtok_ok {s : ByteArray} {i : Nat} {K : Int} {L : Nat} (h : tokL ((bs s).drop i) = ⟨K, L, 0⟩) : rtok s i = .tuple #[aggT K (textOf K (((bs s).drop i).take L)) i, .int .i64 ((i : Int) + L), .int .i64 0] := by
  unfold rtok
  rw [h]
  exact if_pos rfl
theorem rtok_err {s : ByteArray} {i : Nat} {K : Int} {L : Nat} {E : Int} (h : tokL ((bs s).drop i) = ⟨K, L, E⟩) (h0 : E ≠ 0) : rtok s i = .tuple #[.agg #[.int .i64 0, .string ⟨#[]⟩, .int .i64 0], .int .i64 0, .int .i64 E] := by
  unfold rtok
  rw [h]
  exact if_neg h0
theorem text4 (r : Bs) (n : Nat) (h : 2 + n ≤ r.length) : textOf 4 (r.take (2 + n)) = (r.drop 1).take n := by
  unfold textOf
  rw [if_pos (by decide), List.length_take, Nat.min_eq_left h, List.drop_take, List.take_take]
  congr 1
  omega
theorem textOf_ne {k : Int} (h : k ≠ 4) (t : Bs) : textOf k t = t := by unfold textOf; rw [if_neg (by simpa using h)]

set_option maxRecDepth 100000 in
set_option maxHeartbeats 4000000 in
theorem rtoken_any (s : ByteArray) (hs : s.size ≤ 65536) (i : Nat) (hi : i < s.size) (w : World) :
    Calls Try.prog 21 #[.string s, .int .i64 i] w fun e w' => e = .returned (rtok s i) ∧ Below w.heap.size w w' := by
  have i1 : (0 : Int) ≤ (i : Int) := by omega
  have i2 : (i : Int) < (s.size : Int) := by omega
  have hv := peekN_at hi
  have HV : Hid (hd ((bs s).drop i) = (s[i].toNat : Int)) := hv
  clear hv
  obtain ⟨c, hc⟩ : ∃ c : Int, (s[i].toNat : Int) = c := ⟨_, rfl⟩
  have HC : Hid ((s[i].toNat : Int) = c) := hc
  rw [hc] at HV
  clear hc
  go_enter Try.func21, Try.ntmps21
  go_wp2
  rw [HC.out]
  go_loopw [8] (fun kv wr => wr = w.alloc (.cells #[.int .i64 0, .string ⟨#[]⟩, .int .i64 0] 34) ∧ ∃ k : Nat, k ≤ 6 ∧ kv = .int .i64 k ∧ (markOf c < 0 ∨ (k : Int) ≤ markOf c)) (fun kv _ => 6 - (intOf kv).toNat)
  case atStart => exact ⟨rfl, 0, by omega, rfl, by omega⟩
  case round =>
    obtain ⟨rfl, k, hk, rfl, hm⟩ := hrel
    by_cases hlt : k < 6
    · have k1 : (0 : Int) ≤ (k : Int) := by omega
      have k2 : (k : Int) < 6 := by omega
      go_wp2
      · have hh : (((⟨#[40, 41, 44, 61, 45, 59]⟩ : ByteArray)[k]'hlt).toNat == c) = true := by assumption
        have hmk := mark_hit k hlt c (beq_iff_eq.1 hh)
        have hn := mark_not c (by rw [hmk]; omega)
        have ht : tokL ((bs s).drop i) = ⟨5 + (k : Int), 1, 0⟩ := by
          unfold tokL
          rw [HV.out, hn.1, hn.2.1, hn.2.2, hmk, if_neg (by simp), if_neg (by simp), if_neg (by simp), if_pos (by omega)]
        refine bodyPost_ret (by simp [results, Try.results21, go_sem]; try rfl) rfl ?_
        rw [rtok_ok ht, textOf_ne (by omega), ext_eq, Nat.add_sub_cancel_left]
        exact ⟨rfl, bel_alloc _ _⟩
      · have hh : (((⟨#[40, 41, 44, 61, 45, 59]⟩ : ByteArray)[k]'hlt).toNat == c) = false := by assumption
        go_roundw
        case rel =>
          refine ⟨by trivial, k + 1, by omega, by go_num, ?_⟩
          rcases hm with hm | hm
          · exact .inl hm
          · right
            rcases Int.lt_or_eq_of_le hm with h | h
            · omega
            · have := mark_at c k hlt h.symm
              have hh' : ¬ (((⟨#[40, 41, 44, 61, 45, 59]⟩ : ByteArray)[k]'hlt).toNat : Int) = c := by simpa using hh
              exact absurd this hh'
        case measure => simp [intOf]; omega
    · have : k = 6 := by omega
      subst this
      have hneg : ¬ (0 ≤ markOf c) := by
        have := mark_hi c
        omega
      have HM : Hid (¬ (0 ≤ markOf c)) := hneg
      clear hneg hm hlt
      cases hL : pLetter c
      · cases hD : pDigit c
        · by_cases h34 : (c == 34) = true
          · obtain ⟨n, hn⟩ : ∃ n, run pInText (((bs s).drop i).drop 1) = n := ⟨_, rfl⟩
            have hq : pastN pInText s (i + 1) = i + (1 + n) := by rw [pastN_add, hn]
            have hle : i + (1 + n) ≤ s.size := by rw [← hq]; exact pastN_le (by omega)
            have hpk : peekN s (i + (1 + n)) = hd (((bs s).drop i).drop (1 + n)) := peekN_add s i (1 + n)
            have ht0 : tokL ((bs s).drop i) = if hd (((bs s).drop i).drop (1 + n)) == 34 then fitL 4 (2 + n) n else ⟨0, 0, 61⟩ := by
              unfold tokL
              rw [HV.out, hL, hD, h34, hn, if_neg (by simp), if_neg (by simp), if_pos rfl]
            have Q1 := rquoted_any s hs i hi
            unfold qt1 qt2 at Q1
            rw [hq, hpk] at Q1
            cases hf : (hd (((bs s).drop i).drop (1 + n)) == 34)
            · rw [hf] at ht0 Q1
              have HT : Hid (rtok s i = .tuple #[.agg #[.int .i64 0, .string ⟨#[]⟩, .int .i64 0], .int .i64 0, .int .i64 61]) := rtok_err ht0 (by decide)
              have H1 : Hid (∀ v : World, Calls Try.prog 43 #[.string s, .int .i64 (i : Int)] v fun e w' => e = .returned (.tuple #[.int .i64 0, .int .i64 61]) ∧ w' = v) := Q1
              clear ht0 Q1 hf hpk hq hn
              go_wp2_with (first
              | (go_at_call 40; refine (rLetter_any _ _).mono ?_; rintro e w1 ⟨rfl, rfl⟩; rw [hL])
              | (go_at_call 41; refine (rDigit_any _ _).mono ?_; rintro e w1 ⟨rfl, rfl⟩; rw [hD])
                | (go_at_call 43; refine (H1.out _).mono ?_; rintro e w1 ⟨rfl, rfl⟩))
              refine bodyPost_ret (by simp [results, Try.results21, go_sem]; try rfl) rfl ?_
              rw [HT.out]
              exact ⟨rfl, bel_alloc _ _⟩
            · rw [hf] at ht0 Q1
              simp only [if_true] at ht0 Q1
              have hl1 := hd_ne (fun c => c == 34) rfl _ hf
              rw [List.length_drop, drop_len] at hl1
              by_cases hc : n > 64
              · have hc' : (((i + (1 + n) : Nat) : Int)) - i - 1 > 64 := by omega
                rw [if_pos hc', if_pos hc'] at Q1
                unfold fitL at ht0
                rw [if_pos hc] at ht0
                have HT : Hid (rtok s i = .tuple #[.agg #[.int .i64 0, .string ⟨#[]⟩, .int .i64 0], .int .i64 0, .int .i64 2]) := rtok_err ht0 (by decide)
                have H1 : Hid (∀ v : World, Calls Try.prog 43 #[.string s, .int .i64 (i : Int)] v fun e w' => e = .returned (.tuple #[.int .i64 0, .int .i64 2]) ∧ w' = v) := Q1
                clear ht0 Q1 hf hpk hq hn hc hc'
                go_wp2_with (first
                  | (go_at_call 40; refine (rLetter_any _ _).mono ?_; rintro e w1 ⟨rfl, rfl⟩; rw [hL])
                  | (go_at_call 41; refine (rDigit_any _ _).mono ?_; rintro e w1 ⟨rfl, rfl⟩; rw [hD])
                  | (go_at_call 43; refine (H1.out _).mono ?_; rintro e w1 ⟨rfl, rfl⟩))
                refine bodyPost_ret (by simp [results, Try.results21, go_sem]; try rfl) rfl ?_
                rw [HT.out]
                exact ⟨rfl, bel_alloc _ _⟩
              · have hc' : ¬ (((i + (1 + n) : Nat) : Int)) - i - 1 > 64 := by omega
                rw [if_neg hc', if_neg hc'] at Q1
                unfold fitL at ht0
                rw [if_neg hc] at ht0
                have hr := rtok_ok ht0
                rw [text4 _ _ (by rw [drop_len]; omega), List.drop_drop, show ((i : Int) + ((2 + n : Nat) : Int)) = ((i + (1 + n) : Nat) : Int) + 1 by omega] at hr
                have hx := ext_eq s (i + 1) (i + (1 + n))
                rw [show i + (1 + n) - (i + 1) = n by omega] at hx
                obtain ⟨q, hqq⟩ : ∃ q, i + (1 + n) = q := ⟨_, rfl⟩
                rw [hqq] at hr hx Q1 hle
                have hq1 : i + 1 ≤ q := by omega
                have hq2 : q < s.size := by omega
                obtain ⟨X, hX⟩ : ∃ X : Bs, ((bs s).drop (i + 1)).take n = X := ⟨_, rfl⟩
                rw [hX] at hr hx
                have HX : Hid (s.extract (i + 1) q = ⟨X.toArray⟩) := hx
                have HT : Hid (rtok s i = .tuple #[aggT 4 X i, .int .i64 ((q : Int) + 1), .int .i64 0]) := hr
                have H1 : Hid (∀ v : World, Calls Try.prog 43 #[.string s, .int .i64 (i : Int)] v fun e w' => e = .returned (.tuple #[.int .i64 ((q : Int) + 1), .int .i64 0]) ∧ w' = v) := Q1
                clear ht0 Q1 hf hpk hq hn hc hc' hr hx hX hl1 hqq
                go_wp2_with (first
                  | (go_at_call 40; refine (rLetter_any _ _).mono ?_; rintro e w1 ⟨rfl, rfl⟩; rw [hL])
                  | (go_at_call 41; refine (rDigit_any _ _).mono ?_; rintro e w1 ⟨rfl, rfl⟩; rw [hD])
                  | (go_at_call 43; refine (H1.out _).mono ?_; rintro e w1 ⟨rfl, rfl⟩))
                refine bodyPost_ret (by simp [results, Try.results21, go_sem]; try rfl) rfl ?_
                rw [HT.out, HX.out]
                exact ⟨rfl, bel_alloc _ _⟩
          · have h34' : (c == 34) = false := by simpa using h34
            have ht : tokL ((bs s).drop i) = ⟨0, 0, 60⟩ := by
              unfold tokL
              rw [HV.out, hL, hD, h34', if_neg (by simp), if_neg (by simp), if_neg (by simp), if_neg HM.out]
            have HT : Hid (rtok s i = .tuple #[.agg #[.int .i64 0, .string ⟨#[]⟩, .int .i64 0], .int .i64 0, .int .i64 60]) := rtok_err ht (by decide)
            clear ht
            go_wp2_with (first
              | (go_at_call 40; refine (rLetter_any _ _).mono ?_; rintro e w1 ⟨rfl, rfl⟩; rw [hL])
              | (go_at_call 41; refine (rDigit_any _ _).mono ?_; rintro e w1 ⟨rfl, rfl⟩; rw [hD]))
            refine bodyPost_ret (by simp [results, Try.results21, go_sem]; try rfl) rfl ?_
            rw [HT.out]
            exact ⟨rfl, bel_alloc _ _⟩
        · have N1 := rnumber_any s hs i (by omega)
          have ht0 : tokL ((bs s).drop i) = numL ((bs s).drop i) := by
            unfold tokL
            rw [HV.out, hL, hD, if_neg (by simp), if_pos rfl]
          have ok := okay_num ((bs s).drop i) (by rw [HV.out]; exact hD)
          rw [num_eq] at N1
          obtain ⟨t, ht⟩ : ∃ t, numL ((bs s).drop i) = t := ⟨_, rfl⟩
          rw [ht] at N1 ht0 ok
          obtain ⟨K, L, E⟩ := t
          unfold ret3 toT3 at N1
          have hk4 : E = 0 → K ≠ 4 := fun e => by
            have := numL_kind ((bs s).drop i)
            rw [ht] at this
            intro h4
            have h := this e
            simp only at h
            omega
          by_cases hE : E = 0
          · subst hE
            obtain ⟨o1, o2, _, _, _⟩ := ok rfl
            simp only [if_true] at N1
            rw [drop_len] at o2
            have o2' : L ≤ s.size - i := o2
            have hr := rtok_ok ht0
            rw [textOf_ne (hk4 rfl)] at hr
            have hx := ext_eq s i (i + L)
            rw [Nat.add_sub_cancel_left] at hx
            obtain ⟨X, hX⟩ : ∃ X : Bs, ((bs s).drop i).take L = X := ⟨_, rfl⟩
            rw [hX] at hr hx
            have HX : Hid (s.extract i (i + L) = ⟨X.toArray⟩) := hx
            have HT : Hid (rtok s i = .tuple #[aggT K X i, .int .i64 ((i : Int) + L), .int .i64 0]) := hr
            have H1 : Hid (∀ v : World, Calls Try.prog 42 #[.string s, .int .i64 (i : Int)] v fun e w' => e = .returned (.tuple #[.int .i64 K, .int .i64 ((i : Int) + L), .int .i64 0]) ∧ w' = v) := N1
            clear N1 ht0 ht hr hx hX hk4 ok
            go_wp2_with (first
              | (go_at_call 40; refine (rLetter_any _ _).mono ?_; rintro e w1 ⟨rfl, rfl⟩; rw [hL])
              | (go_at_call 41; refine (rDigit_any _ _).mono ?_; rintro e w1 ⟨rfl, rfl⟩; rw [hD])
              | (go_at_call 42; refine (H1.out _).mono ?_; rintro e w1 ⟨rfl, rfl⟩))
            refine bodyPost_ret (by simp [results, Try.results21, go_sem]; try rfl) rfl ?_
            rw [HT.out, HX.out]
            exact ⟨rfl, bel_alloc _ _⟩
          · rw [if_neg hE] at N1
            have HT : Hid (rtok s i = .tuple #[.agg #[.int .i64 0, .string ⟨#[]⟩, .int .i64 0], .int .i64 0, .int .i64 E]) := rtok_err ht0 hE
            have H1 : Hid (∀ v : World, Calls Try.prog 42 #[.string s, .int .i64 (i : Int)] v fun e w' => e = .returned (.tuple #[.int .i64 K, .int .i64 0, .int .i64 E]) ∧ w' = v) := N1
            have hE1 : (E == 0) = false := by simpa using hE
            have hE2 : (E != 0) = true := by simpa using hE
            clear N1 ht0 ht ok hk4 hE
            go_wp2_with (first
              | (go_at_call 40; refine (rLetter_any _ _).mono ?_; rintro e w1 ⟨rfl, rfl⟩; rw [hL])
              | (go_at_call 41; refine (rDigit_any _ _).mono ?_; rintro e w1 ⟨rfl, rfl⟩; rw [hD])
              | (go_at_call 42; refine (H1.out _).mono ?_; rintro e w1 ⟨rfl, rfl⟩))
            refine bodyPost_ret (by simp [results, Try.results21, go_sem]; try rfl) rfl ?_
            rw [HT.out]
            exact ⟨rfl, bel_alloc _ _⟩
      · obtain ⟨n, hn⟩ : ∃ n, run pInName ((bs s).drop i) = n := ⟨_, rfl⟩
        have hq : pastN pInName s i = i + n := by unfold pastN; rw [hn]
        have ht0 : tokL ((bs s).drop i) = fitL 1 n n := by
          unfold tokL
          rw [HV.out, hL, hn, if_pos rfl]
        have HQ : Hid (pastN pInName s i = i + n ∧ tokL ((bs s).drop i) = fitL 1 n n) := ⟨hq, ht0⟩
        clear hn hq ht0
        go_wp2_with (go_at_call 40; refine (rLetter_any _ _).mono ?_; rintro e w1 ⟨rfl, rfl⟩; rw [hL])
        go_loopw [9] (fun kv wr => wr = w.alloc (.cells #[.int .i64 0, .string ⟨#[]⟩, .int .i64 0] 34) ∧ ∃ k : Nat, i ≤ k ∧ k ≤ s.size ∧ kv = .int .i64 k ∧ pastN pInName s i = pastN pInName s k) (fun kv _ => s.size - (intOf kv).toNat)
        case atStart => exact ⟨rfl, i, Nat.le_refl _, by omega, rfl, rfl⟩
        case round =>
          obtain ⟨rfl, k, hik, hk, rfl, hp⟩ := hrel
          have HP : Hid (pastN pInName s i = pastN pInName s k) := hp
          clear hp
          have fin : pastN pInName s k = k → Hid (k = i + n) := fun h => by
            have a := HP.out
            have b := HQ.out.1
            show k = i + n
            omega
          have HFIN : Hid (pastN pInName s k = k → Hid (k = i + n)) := fin
          clear fin
          by_cases hlt : k < s.size
          · have k1 : (0 : Int) ≤ (k : Int) := by omega
            have k2 : (k : Int) < (s.size : Int) := by omega
            cases hl : pLetter (s[k].toNat : Int)
            · cases hd' : pDigit (s[k].toNat : Int)
              · have hst : pastN pInName s k = k := pastN_no hlt (by unfold pInName; rw [hl, hd']; rfl)
                have hkn := (HFIN.out hst).out
                clear hst
                have ht0 := HQ.out.2
                unfold fitL at ht0
                by_cases hc : n > 64
                · rw [if_pos hc] at ht0
                  have HT : Hid (rtok s i = .tuple #[.agg #[.int .i64 0, .string ⟨#[]⟩, .int .i64 0], .int .i64 0, .int .i64 2]) := rtok_err ht0 (by decide)
                  have hc2 : (64 : Int) < (k : Int) - i := by omega
                  clear ht0 hc hkn
                  go_wp2_with (first
                    | (go_at_call 40; refine (rLetter_any _ _).mono ?_; rintro e w1 ⟨rfl, rfl⟩; rw [hl])
                    | (go_at_call 41; refine (rDigit_any _ _).mono ?_; rintro e w1 ⟨rfl, rfl⟩; rw [hd']))
                  refine bodyPost_ret (by simp [results, Try.results21, go_sem]; try rfl) rfl ?_
                  rw [HT.out]
                  exact ⟨rfl, bel_alloc _ _⟩
                · rw [if_neg hc] at ht0
                  have hr := rtok_ok ht0
                  have hx := ext_eq s i k
                  rw [show k - i = n by omega] at hx
                  rw [textOf_ne (by decide), show ((i : Int) + (n : Int)) = (k : Int) by omega] at hr
                  obtain ⟨X, hX⟩ : ∃ X : Bs, ((bs s).drop i).take n = X := ⟨_, rfl⟩
                  rw [hX] at hr hx
                  have HX : Hid (s.extract i k = ⟨X.toArray⟩) := hx
                  have HT : Hid (rtok s i = .tuple #[aggT 1 X i, .int .i64 (k : Int), .int .i64 0]) := hr
                  have hc2 : ¬ ((64 : Int) < (k : Int) - i) := by omega
                  clear ht0 hc hr hx hX hkn
                  go_wp2_with (first
                    | (go_at_call 40; refine (rLetter_any _ _).mono ?_; rintro e w1 ⟨rfl, rfl⟩; rw [hl])
                    | (go_at_call 41; refine (rDigit_any _ _).mono ?_; rintro e w1 ⟨rfl, rfl⟩; rw [hd']))
                  refine bodyPost_ret (by simp [results, Try.results21, go_sem]; try rfl) rfl ?_
                  rw [HT.out, HX.out]
                  exact ⟨rfl, bel_alloc _ _⟩
              · have hst : pastN pInName s k = pastN pInName s (k + 1) := pastN_yes hlt (by unfold pInName; rw [hl, hd']; rfl)
                have HS : Hid (pastN pInName s i = pastN pInName s (k + 1)) := HP.out.trans hst
                clear hst
                go_wp2_with (first
                  | (go_at_call 40; refine (rLetter_any _ _).mono ?_; rintro e w1 ⟨rfl, rfl⟩; rw [hl])
                  | (go_at_call 41; refine (rDigit_any _ _).mono ?_; rintro e w1 ⟨rfl, rfl⟩; rw [hd']))
                go_roundw
                case rel => exact ⟨by trivial, k + 1, by omega, by omega, by go_num, HS.out⟩
                case measure => simp [intOf]; omega
            · have hst : pastN pInName s k = pastN pInName s (k + 1) := pastN_yes hlt (by unfold pInName; rw [hl]; rfl)
              have HS : Hid (pastN pInName s i = pastN pInName s (k + 1)) := HP.out.trans hst
              clear hst
              go_wp2_with (go_at_call 40; refine (rLetter_any _ _).mono ?_; rintro e w1 ⟨rfl, rfl⟩; rw [hl])
              go_roundw
              case rel => exact ⟨by trivial, k + 1, by omega, by omega, by go_num, HS.out⟩
              case measure => simp [intOf]; omega
          · have : k = s.size := by omega
            subst this
            have hkn := (HFIN.out (pastN_end (Nat.le_refl _))).out
            have k2 : ¬ ((s.size : Int) < (s.size : Int)) := by omega
            have ht0 := HQ.out.2
            unfold fitL at ht0
            by_cases hc : n > 64
            · rw [if_pos hc] at ht0
              have HT : Hid (rtok s i = .tuple #[.agg #[.int .i64 0, .string ⟨#[]⟩, .int .i64 0], .int .i64 0, .int .i64 2]) := rtok_err ht0 (by decide)
              have hc2 : (64 : Int) < (s.size : Int) - i := by omega
              clear ht0 hc hkn
              go_wp2
              refine bodyPost_ret (by simp [results, Try.results21, go_sem]; try rfl) rfl ?_
              rw [HT.out]
              exact ⟨rfl, bel_alloc _ _⟩
            · rw [if_neg hc] at ht0
              have hr := rtok_ok ht0
              have hx := ext_eq s i s.size
              rw [show s.size - i = n by omega] at hx
              rw [textOf_ne (by decide), show ((i : Int) + (n : Int)) = (s.size : Int) by omega] at hr
              obtain ⟨X, hX⟩ : ∃ X : Bs, ((bs s).drop i).take n = X := ⟨_, rfl⟩
              rw [hX] at hr hx
              have HX : Hid (s.extract i s.size = ⟨X.toArray⟩) := hx
              have HT : Hid (rtok s i = .tuple #[aggT 1 X i, .int .i64 (s.size : Int), .int .i64 0]) := hr
              have hc2 : ¬ ((64 : Int) < (s.size : Int) - i) := by omega
              clear ht0 hc hr hx hX hkn
              go_wp2
              refine bodyPost_ret (by simp [results, Try.results21, go_sem]; try rfl) rfl ?_
              rw [HT.out, HX.out]
              exact ⟨rfl, bel_alloc _ _⟩

end Go.Proofs.Ytheedniegjcbgaa
