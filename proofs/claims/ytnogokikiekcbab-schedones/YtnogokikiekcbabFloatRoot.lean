import Derived.Test.YtnogokikiekcbabFloatWalks
/- The root: by way of binary64, and of binary32 itself: the same. -/
namespace Go.Proofs.Ytnogokikiekcbab
open Go.RowKit
set_option linter.unusedVariables false

theorem root_single (a : Nat) (ha : rg a < 2139095040) (hs : ng a = false) (h0 : mg a ≠ 0) :
    ∃ r, Ieee.single.sqrt a = some (wd false r) ∧ RNear 23 (mv a * 2 ^ 149) r := by
  unfold Ieee.Format.sqrt
  rw [read_fin a ha, hs]
  simp only [Ieee.Datum.root, if_neg h0, Bool.false_eq_true, if_false, Option.map_some, Ieee.Format.write]
  rw [nearest_eq, single_fb, single_least]
  have hl : (mg a).log2 ≤ 23 := by
    have : (mg a).log2 < 24 := (Nat.log2_lt h0).2 (mg_lt a)
    omega
  generalize hi : (-149 + (te a : Int)) = i
  generalize hm1 : 2 * (23 + 2) - (mg a).log2 = more1
  generalize hmore : more1 + ((i - (more1 : Int)) % 2).toNat = more
  have hpar : (i - (more : Int)) % 2 = 0 := by omega
  have hmo : 27 ≤ more ∧ more ≤ 51 := by omega
  generalize hn : mg a <<< more = n at *
  have hlo : 2 ^ (mg a).log2 ≤ mg a := Nat.log2_self_le h0
  have hn50 : 2 ^ 50 ≤ n := by
    rw [← hn, Nat.shiftLeft_eq]
    calc 2 ^ 50 ≤ 2 ^ ((mg a).log2 + more) := Nat.pow_le_pow_right (by decide) (by omega)
      _ = 2 ^ (mg a).log2 * 2 ^ more := Nat.pow_add ..
      _ ≤ mg a * 2 ^ more := Nat.mul_le_mul_right _ hlo
  have hrt := root_from n (n.log2 / 2 + 1) 0 (by omega) (by
    have : n < 2 ^ (n.log2 + 1) := Nat.lt_log2_self
    rw [Nat.zero_add, ← Nat.pow_add]
    exact Nat.lt_of_lt_of_le this (Nat.pow_le_pow_right (by decide) (by omega)))
  generalize Ieee.Datum.rootFrom n (n.log2 / 2 + 1) 0 = w at *
  have hw : 2 ^ 24 ≤ w := by
    rcases Nat.lt_or_ge w (2 ^ 24) with c | c
    · exfalso
      have := Nat.mul_self_le_mul_self (show w + 1 ≤ 2 ^ 24 from c)
      have e : (2 : Nat) ^ 24 * 2 ^ 24 < 2 ^ 50 := by decide
      omega
    · exact c
  have big : 23 + 2 ≤ (2 * w + (w * w != n).toNat).log2 := by
    apply (Nat.le_log2 (by omega)).2
    omega
  refine ⟨_, rfl, ?_⟩
  obtain ⟨x, hx⟩ : ∃ x : Nat, (x : Int) = (i - (more : Int)) / 2 + 149 := ⟨((i - (more : Int)) / 2 + 149).toNat, by omega⟩
  have hnr := near_root 23 (-149) w n ((i - (more : Int)) / 2 - 1) (by decide) hrt.1 hrt.2 big x (by omega)
  have e : n * (2 ^ x * 2 ^ x) = mv a * 2 ^ 149 := by
    rw [mv_eq, ← hn, Nat.shiftLeft_eq, ← Nat.pow_add, Nat.mul_assoc, Nat.mul_assoc, ← Nat.pow_add, ← Nat.pow_add]
    congr 2; omega
  rw [e] at hnr
  exact hnr

theorem read_nan' (f : Ieee.Format) (hb : f.binade ≤ f.infRung) (x : Nat) (h : f.infRung < x % f.signWeight) : f.read x = .nan (x / f.signWeight % 2 == 1) (x % f.signWeight - f.infRung) := by
  unfold Ieee.Format.read
  simp only []
  rw [if_neg (by omega), if_neg (by omega), if_neg (by omega)]

theorem cut_nan64 (x y t : Nat) : Ieee.double.infRung < (Question.nanBits .f64 x y).cut t % Ieee.double.signWeight := by
  have e : (Question.nanBits .f64 x y).cut t = t % 2 * 9223372036854775808 + 9218868437227405312 + 1 + t / 2 % 4503599627370495 := rfl
  have e1 : Ieee.double.infRung = 9218868437227405312 := rfl
  have e2 : Ieee.double.signWeight = 9223372036854775808 := rfl
  have h2 : t % 2 = 0 ∨ t % 2 = 1 := by omega
  have h3 := Nat.mod_lt (t / 2) (show 0 < 4503599627370495 by decide)
  rw [e, e1, e2]
  generalize t / 2 % 4503599627370495 = q at *
  rcases h2 with h | h <;> rw [h] <;> omega
theorem cut_conv64 (x t : Nat) : Ieee.double.infRung < (Question.nanConv .f64 x).cut t % Ieee.double.signWeight := cut_nan64 0 0 t

theorem double_nan (x : Nat) (h : Ieee.double.infRung < x % Ieee.double.signWeight) : ∃ s f, FloatKind.f64.decode x = .nan s f := ⟨_, _, read_nan' Ieee.double (by decide) x h⟩
theorem double_sqrt_nan (x : Nat) (h : Ieee.double.infRung < x % Ieee.double.signWeight) : Ieee.double.sqrt x = none := by
  obtain ⟨s, f, e⟩ := double_nan x h
  unfold Ieee.Format.sqrt
  rw [show Ieee.double.read x = _ from e]; rfl
theorem single_nan (x : Nat) (h : 2139095040 < rg x) : ∃ s f, FloatKind.f32.decode x = .nan s f := ⟨_, _, read_nan x h⟩

section
variable {P : Program} (w : World)
theorem run_conv_nan (src dst : TypeId) (s k : FloatKind) (b : Nat) (hs : (P.underlying src).isSome = true) (hd : P.underlying dst = some (.float k)) (hk : s ≠ k) (h : ∃ g f, s.decode b = .nan g f) :
    (convert src dst (.float s b)).run P w = .ok (.float k ((Question.nanConv k b).cut (w.tape w.drawn (.nanConv k b)))) w.drew := by
  obtain ⟨u, hs'⟩ := Option.isSome_iff_exists.1 hs
  obtain ⟨g, f, h⟩ := h
  cases u <;> simp [convert, run_underlying hs', run_underlying hd, Conv.floatToFloat, hk, h, choose, Sem.run, Question.forced]
theorem run_sqrt_some (x r : Nat) (h : Ieee.double.sqrt x = some r) : (Extern.MathSqrt.sqrt #[.float .f64 x]).run P w = .ok (.float .f64 r) w := by
  have h' : FloatKind.f64.format.sqrt x = some r := h
  change Sem.run P (match FloatKind.f64.format.sqrt x with
    | some r => pure (Value.float .f64 r)
    | none => do pure (Value.float .f64 (← choose (.nanBits .f64 x x)))) w = _
  rw [h']; rfl
theorem run_sqrt_none (x : Nat) (h : Ieee.double.sqrt x = none) : (Extern.MathSqrt.sqrt #[.float .f64 x]).run P w = .ok (.float .f64 ((Question.nanBits .f64 x x).cut (w.tape w.drawn (.nanBits .f64 x x)))) w.drew := by
  have h' : FloatKind.f64.format.sqrt x = none := h
  change Sem.run P (match FloatKind.f64.format.sqrt x with
    | some r => pure (Value.float .f64 r)
    | none => do pure (Value.float .f64 (← choose (.nanBits .f64 x x)))) w = _
  rw [h']
  simp [choose, Sem.run, Question.forced]
end

theorem sqrt_cases (a : Nat) (ha : a < 4294967296) :
    (2139095040 < rg a ∧ Ieee.single.sqrt a = none) ∨
    (∃ x, floatToFloatBits .f32 a .f64 = some x ∧ Ieee.double.sqrt x = none ∧ Ieee.single.sqrt a = none) ∨
    (∃ x y z, floatToFloatBits .f32 a .f64 = some x ∧ Ieee.double.sqrt x = some y ∧ floatToFloatBits .f64 y .f32 = some z ∧ Ieee.single.sqrt a = some z) := by
  have eself : wd (ng a) (rg a) = wd (ng a) (rg a) := rfl
  rcases Nat.lt_trichotomy (rg a) 2139095040 with c | c | c
  · right
    have hf2f : ∀ r, Ieee.double.nearest (ng a) (mg a) (-149 + (te a : Int)) = Ieee.double.word (ng a) r → r < Ieee.double.infRung → floatToFloatBits .f32 a .f64 = some (Ieee.double.word (ng a) r) := by
      intro r h1 h2
      obtain ⟨m, t, hrd, -, -⟩ := read_word Ieee.double (ng a) r h2
      unfold floatToFloatBits
      rw [if_neg (by decide), show FloatKind.f32.decode a = .number (ng a) (mg a) (-149 + (te a : Int)) from read_fin a c]
      simp only []
      have e1 : FloatKind.f64.encode (.number (ng a) (mg a) (-149 + (te a : Int))) = Ieee.double.word (ng a) r := h1
      rw [e1, show FloatKind.f64.decode (Ieee.double.word (ng a) r) = _ from hrd]
      rfl
    by_cases h0 : mg a = 0
    · right
      have hr0 : rg a = 0 := by unfold mg at h0; split at h0 <;> omega
      have e0 : a = wd (ng a) 0 := by unfold wd ng rg at *; by_cases d : a / 2147483648 % 2 = 1 <;> simp [d] <;> omega
      have hz : Ieee.double.nearest (ng a) (mg a) (-149 + (te a : Int)) = Ieee.double.word (ng a) 0 := by rw [h0]; rfl
      have hinf : 0 < Ieee.double.infRung := by decide
      obtain ⟨m, t, hrd, hmt, -⟩ := read_word Ieee.double (ng a) 0 hinf
      have hm : m = 0 := by
        rw [V_zero] at hmt
        rcases Nat.mul_eq_zero.1 hmt with e | e
        · exact e
        · exact absurd e (Nat.ne_of_gt (Nat.two_pow_pos t))
      subst hm
      refine ⟨_, Ieee.double.word (ng a) 0, a, hf2f 0 hz hinf, ?_, ?_, ?_⟩
      · unfold Ieee.Format.sqrt; rw [hrd]; simp [Ieee.Datum.root, Ieee.Format.write, Ieee.Format.nearest]
      · unfold floatToFloatBits
        rw [if_neg (by decide), show FloatKind.f64.decode (Ieee.double.word (ng a) 0) = _ from hrd]
        simp only []
        have e1 : FloatKind.f32.encode (.number (ng a) 0 (Ieee.double.leastPlace + (t : Int))) = a := by
          have : Ieee.single.nearest (ng a) 0 (Ieee.double.leastPlace + (t : Int)) = wd (ng a) 0 := by
            simp only [Ieee.Format.nearest, if_true]; rfl
          exact this.trans e0.symm
        rw [e1, show FloatKind.f32.decode a = _ from read_fin a c]
        rfl
      · unfold Ieee.Format.sqrt; rw [read_fin a c, h0]
        simp only [Ieee.Datum.root, if_true, Option.map_some, Ieee.Format.write, Ieee.Format.nearest]
        exact congrArg some e0.symm
    · cases hs : ng a
      · right
        obtain ⟨rW, rD, mD, tD, r, h1, h2, h3, h4, h5, h6, h7, h8⟩ := sqrt_fin a c hs h0
        obtain ⟨r', k1, k2⟩ := root_single a c hs h0
        have hrr := h8.unique k2
        subst hrr
        have hf := hf2f rW (by rw [hs]; exact h1) h2
        rw [hs] at hf
        refine ⟨_, _, wd false r, hf, h3, ?_, k1⟩
        unfold floatToFloatBits
        rw [if_neg (by decide), show FloatKind.f64.decode (Ieee.double.word false rD) = _ from h5]
        simp only []
        have e1 : FloatKind.f32.encode (.number false mD (-1074 + (tD : Int))) = wd false r := h6
        rw [e1, show FloatKind.f32.decode (wd false r) = _ from read_fin _ (by rw [rg_wd]; omega)]
        rfl
      · left
        obtain ⟨r, h1, h2, h3⟩ := widen_fin (mg a) (te a) true (mg_lt a) (te_le a c)
        have hf := hf2f r (by rw [hs]; exact h1) h3
        rw [hs] at hf
        obtain ⟨m, t, hrd, hmt, -⟩ := read_word Ieee.double true r h3
        have hm : m ≠ 0 := by
          intro e; subst e
          rw [double_fb, h2, Nat.zero_mul] at hmt
          exact absurd hmt.symm (Nat.ne_of_gt (Nat.mul_pos (Nat.pos_of_ne_zero h0) (Nat.two_pow_pos _)))
        refine ⟨_, hf, ?_, ?_⟩
        · unfold Ieee.Format.sqrt; rw [hrd]; simp [Ieee.Datum.root, hm]
        · unfold Ieee.Format.sqrt; rw [read_fin a c, hs]; simp [Ieee.Datum.root, h0]
  · right
    have hf : floatToFloatBits .f32 a .f64 = some (Ieee.double.word (ng a) Ieee.double.infRung) := by
      unfold floatToFloatBits
      rw [if_neg (by decide), show FloatKind.f32.decode a = _ from read_inf a c]
      rfl
    have hrd : ∀ s, Ieee.double.read (Ieee.double.word s Ieee.double.infRung) = .infinity s := by decide
    cases hs : ng a
    · right
      have e0 : a = 2139095040 := by unfold ng rg at *; simp at hs; omega
      rw [hs] at hf
      refine ⟨_, Ieee.double.word false Ieee.double.infRung, a, hf, ?_, ?_, ?_⟩
      · unfold Ieee.Format.sqrt; rw [hrd]; rfl
      · unfold floatToFloatBits
        rw [if_neg (by decide), show FloatKind.f64.decode (Ieee.double.word false Ieee.double.infRung) = _ from hrd false, e0]
        rfl
      · unfold Ieee.Format.sqrt; rw [read_inf a c, hs, e0]; rfl
    · left
      rw [hs] at hf
      refine ⟨_, hf, ?_, ?_⟩
      · unfold Ieee.Format.sqrt; rw [hrd]; rfl
      · unfold Ieee.Format.sqrt; rw [read_inf a c, hs]; rfl
  · left
    refine ⟨c, ?_⟩
    unfold Ieee.Format.sqrt; rw [read_nan a c]; rfl

theorem call_sqrt (x : Nat) (w : World) : (callFunc 52 #[.float .f64 x]).run Try.prog w = ((Extern.MathSqrt.sqrt #[.float .f64 x]).run Try.prog w).andThen fun v w' => .ok (.value v) w' :=
  run_callFunc_extern (e := Extern.MathSqrt.sqrt) Try.func52 (by kernel_rfl) (by kernel_rfl) (by kernel_rfl) (by kernel_rfl) _ _

set_option maxHeartbeats 400000 in
theorem msqrt_some (x r : Nat) (h : Ieee.double.sqrt x = some r) (w : World) :
    Calls Try.prog 46 #[.float .f64 x] w fun e w' => e = .returned (.float .f64 r) ∧ w' = w := by
  have hx := call_sqrt x w
  rw [run_sqrt_some w x r h] at hx
  simp only [Result.andThen] at hx
  go_enter Try.func46, Try.ntmps46
  go_wp2
  go_ret
  exact ⟨rfl, rfl⟩

set_option maxHeartbeats 400000 in
theorem msqrt_none (x : Nat) (h : Ieee.double.sqrt x = none) (w : World) :
    Calls Try.prog 46 #[.float .f64 x] w fun e w' => (∃ z, e = .returned (.float .f64 z) ∧ Ieee.double.infRung < z % Ieee.double.signWeight) ∧ Below w.heap.size w w' := by
  have hx := call_sqrt x w
  rw [run_sqrt_none w x h] at hx
  simp only [Result.andThen] at hx
  have hz := cut_nan64 x x (w.tape w.drawn (.nanBits .f64 x x))
  generalize (Question.nanBits .f64 x x).cut (w.tape w.drawn (.nanBits .f64 x x)) = z at *
  go_enter Try.func46, Try.ntmps46
  go_wp2
  go_ret
  exact ⟨⟨z, rfl, hz⟩, belD _⟩

theorem conv_back (w : World) (b : Nat) (h : Ieee.double.infRung < b % Ieee.double.signWeight) :
    ∃ z : Nat, canon (z : Int) = 2143289344 ∧ z < 4294967296 ∧ (convert 62 48 (.float .f64 b)).run Try.prog w = .ok (.float .f32 z) w.drew := by
  refine ⟨_, canon_not ?_, ?_, run_conv_nan (P := Try.prog) w 62 48 .f64 .f32 b (by rw [Try.underlying62]; rfl) Try.underlying48 (by decide) (double_nan b h)⟩
  · exact (cut_conv _ _).1
  · exact (cut_conv _ _).2

set_option maxHeartbeats 400000 in
theorem sqrt_any (a : Int) (h0 : 0 ≤ a) (h1 : a < 4294967296) (w : World) :
    Calls Try.prog 35 #[.int .u32 a] w fun e w' => e = .returned (.int .u32 (fsqrt a)) ∧ Below w.heap.size w w' := by
  unfold fsqrt
  rcases sqrt_cases a.toNat (by omega) with ⟨c, hr⟩ | ⟨x, hx, hq, hr⟩ | ⟨x, y, z, hx, hy, hz, hr⟩
  · rw [hr]
    have e1 := run_conv_nan (P := Try.prog) w 48 62 .f32 .f64 a.toNat (by rw [Try.underlying48]; rfl) Try.underlying62 (by decide) (single_nan _ c)
    have hn1 := cut_conv64 a.toNat (w.tape w.drawn (.nanConv .f64 a.toNat))
    generalize (Question.nanConv .f64 a.toNat).cut (w.tape w.drawn (.nanConv .f64 a.toNat)) = z1 at *
    have hq := double_sqrt_nan z1 hn1
    clear hr c hn1
    go_enter Try.func35, Try.ntmps35
    go_wp2_with (first
      | (go_at_call 30; refine (value_any _ (by omega) (by omega) _).mono ?_; rintro e w' ⟨rfl, rfl⟩)
      | (go_at_call 46; refine (msqrt_none _ hq _).mono ?_; rintro e w2 ⟨⟨z2, rfl, hz2⟩, hw2⟩; obtain ⟨z3, hc, hz, e3⟩ := conv_back w2 z2 hz2)
      | (go_at_call 29; refine (pattern_any _ hz _).mono ?_; rintro e w' ⟨rfl, rfl⟩))
    go_ret
    exact ⟨rfl, (bel (belD _) hw2).drew⟩
  · rw [hr]
    have e1 := run_convert_float_float (P := Try.prog) w 48 62 .f32 .f64 a.toNat x (by rw [Try.underlying48]; rfl) Try.underlying62 hx
    clear hr hx
    go_enter Try.func35, Try.ntmps35
    go_wp2_with (first
      | (go_at_call 30; refine (value_any _ (by omega) (by omega) _).mono ?_; rintro e w' ⟨rfl, rfl⟩)
      | (go_at_call 46; refine (msqrt_none _ hq _).mono ?_; rintro e w2 ⟨⟨z2, rfl, hz2⟩, hw2⟩; obtain ⟨z3, hc, hz, e3⟩ := conv_back w2 z2 hz2)
      | (go_at_call 29; refine (pattern_any _ hz _).mono ?_; rintro e w' ⟨rfl, rfl⟩))
    go_ret
    exact ⟨rfl, hw2.drew⟩
  · rw [hr]
    have hn := sqrt_num hr
    have hc := canon_num hn.1
    have hlt := hn.2
    have e1 := run_convert_float_float (P := Try.prog) w 48 62 .f32 .f64 a.toNat x (by rw [Try.underlying48]; rfl) Try.underlying62 hx
    have e2 := run_convert_float_float (P := Try.prog) w 62 48 .f64 .f32 y z (by rw [Try.underlying62]; rfl) Try.underlying48 hz
    clear hr hx hz hn
    go_enter Try.func35, Try.ntmps35
    go_wp2_with (first
      | (go_at_call 30; refine (value_any _ (by omega) (by omega) _).mono ?_; rintro e w' ⟨rfl, rfl⟩)
      | (go_at_call 46; refine (msqrt_some _ _ hy _).mono ?_; rintro e w2 ⟨rfl, rfl⟩)
      | (go_at_call 29; refine (pattern_any _ hlt _).mono ?_; rintro e w' ⟨rfl, rfl⟩))
    go_ret
    exact ⟨rfl, bel0 _⟩

end Go.Proofs.Ytnogokikiekcbab
