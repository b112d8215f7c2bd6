import Derived.Test.YtblaokffocegiaaRows
import Derived.Test.YtblaokffocegiaaBitsPlain
import Derived.WalkKit
import Derived.WalkSpells
import Derived.WalkLawsBesides
/- The walks of package bits and of its reference: integers alone. -/
namespace Go.Proofs.Ytblaokffocegiaa
open Go.RowKit
set_option linter.unusedVariables false

set_option maxHeartbeats 400000 in
theorem parts_any (a : Int) (h0 : 0 ≤ a) (h1 : a < 4294967296) (w : World) :
    Calls Try.prog 14 #[.int .u32 a] w fun e w' => e = .returned (.tuple #[.bool (decide (2147483648 ≤ a)), .int .i64 (a / 8388608 % 256), .int .i64 (a % 8388608)]) ∧ w' = w := by
  have e1 := and_sign_ne a h0 h1
  have e2 := and_8 (a / 8388608) (by omega) (by omega)
  have e3 := and_23 a h0 h1
  go_enter Try.func14, Try.ntmps14
  go_wp2
  go_ret3
  exact ⟨rfl, rfl⟩

set_option maxHeartbeats 400000 in
theorem rparts_any (a : Int) (h0 : 0 ≤ a) (h1 : a < 4294967296) (w : World) :
    Calls Try.prog 15 #[.int .i64 a] w fun e w' => e = .returned (.tuple #[.bool (decide (2147483648 ≤ a)), .int .i64 (a / 8388608 % 256), .int .i64 (a % 8388608)]) ∧ w' = w := by
  go_enter Try.func15, Try.ntmps15
  go_wp2
  go_ret3
  exact ⟨rfl, rfl⟩

theorem ret_int {k : IntKind} {a b : Int} (h : a = b) : Ending.returned (.int k a) = .returned (.int k b) := by rw [h]

set_option maxHeartbeats 400000 in
theorem class_any (a : Int) (h0 : 0 ≤ a) (h1 : a < 4294967296) (w : World) :
    Calls Try.prog 10 #[.int .u32 a] w fun e w' => e = .returned (.int .i64 (cls a)) ∧ w' = w := by
  by_cases c1 : a / 8388608 % 256 = 255
  · by_cases c2 : a % 8388608 = 0
    · have hc : cls a = 4 := by unfold cls; rw [if_pos c1, if_pos c2]
      rw [hc]; clear hc
      go_enter Try.func10, Try.ntmps10
      go_wp2_with (go_at_call 14; refine (parts_any _ h0 h1 _).mono ?_; rintro e w' ⟨rfl, rfl⟩)
      go_ret
      exact ⟨rfl, rfl⟩
    · have hc : cls a = 5 := by unfold cls; rw [if_pos c1, if_neg c2]
      rw [hc]; clear hc
      go_enter Try.func10, Try.ntmps10
      go_wp2_with (go_at_call 14; refine (parts_any _ h0 h1 _).mono ?_; rintro e w' ⟨rfl, rfl⟩)
      go_ret
      exact ⟨rfl, rfl⟩
  · by_cases c2 : a / 8388608 % 256 = 0
    · by_cases c3 : a % 8388608 = 0
      · have hc : cls a = 1 := by unfold cls; rw [if_neg c1, if_pos c2, if_pos c3]
        rw [hc]; clear hc
        go_enter Try.func10, Try.ntmps10
        go_wp2_with (go_at_call 14; refine (parts_any _ h0 h1 _).mono ?_; rintro e w' ⟨rfl, rfl⟩)
        go_ret
        exact ⟨rfl, rfl⟩
      · have hc : cls a = 2 := by unfold cls; rw [if_neg c1, if_pos c2, if_neg c3]
        rw [hc]; clear hc
        go_enter Try.func10, Try.ntmps10
        go_wp2_with (go_at_call 14; refine (parts_any _ h0 h1 _).mono ?_; rintro e w' ⟨rfl, rfl⟩)
        go_ret
        exact ⟨rfl, rfl⟩
    · have hc : cls a = 3 := by unfold cls; rw [if_neg c1, if_neg c2]
      rw [hc]; clear hc
      go_enter Try.func10, Try.ntmps10
      go_wp2_with (go_at_call 14; refine (parts_any _ h0 h1 _).mono ?_; rintro e w' ⟨rfl, rfl⟩)
      go_ret
      exact ⟨rfl, rfl⟩

set_option maxHeartbeats 400000 in
theorem rclass_any (a : Int) (h0 : 0 ≤ a) (h1 : a < 4294967296) (w : World) :
    Calls Try.prog 11 #[.int .i64 a] w fun e w' => e = .returned (.int .i64 (cls a)) ∧ w' = w := by
  by_cases c1 : a / 8388608 % 256 = 255
  · by_cases c2 : a % 8388608 = 0
    · have hc : cls a = 4 := by unfold cls; rw [if_pos c1, if_pos c2]
      rw [hc]; clear hc
      go_enter Try.func11, Try.ntmps11
      go_wp2_with (go_at_call 15; refine (rparts_any _ h0 h1 _).mono ?_; rintro e w' ⟨rfl, rfl⟩)
      go_ret
      exact ⟨rfl, rfl⟩
    · have hc : cls a = 5 := by unfold cls; rw [if_pos c1, if_neg c2]
      rw [hc]; clear hc
      go_enter Try.func11, Try.ntmps11
      go_wp2_with (go_at_call 15; refine (rparts_any _ h0 h1 _).mono ?_; rintro e w' ⟨rfl, rfl⟩)
      go_ret
      exact ⟨rfl, rfl⟩
  · by_cases c2 : a / 8388608 % 256 = 0
    · by_cases c3 : a % 8388608 = 0
      · have hc : cls a = 1 := by unfold cls; rw [if_neg c1, if_pos c2, if_pos c3]
        rw [hc]; clear hc
        go_enter Try.func11, Try.ntmps11
        go_wp2_with (go_at_call 15; refine (rparts_any _ h0 h1 _).mono ?_; rintro e w' ⟨rfl, rfl⟩)
        go_ret
        exact ⟨rfl, rfl⟩
      · have hc : cls a = 2 := by unfold cls; rw [if_neg c1, if_pos c2, if_neg c3]
        rw [hc]; clear hc
        go_enter Try.func11, Try.ntmps11
        go_wp2_with (go_at_call 15; refine (rparts_any _ h0 h1 _).mono ?_; rintro e w' ⟨rfl, rfl⟩)
        go_ret
        exact ⟨rfl, rfl⟩
    · have hc : cls a = 3 := by unfold cls; rw [if_neg c1, if_neg c2]
      rw [hc]; clear hc
      go_enter Try.func11, Try.ntmps11
      go_wp2_with (go_at_call 15; refine (rparts_any _ h0 h1 _).mono ?_; rintro e w' ⟨rfl, rfl⟩)
      go_ret
      exact ⟨rfl, rfl⟩

set_option maxHeartbeats 400000 in
theorem ris_any (a : Int) (h0 : 0 ≤ a) (h1 : a < 4294967296) (w : World) :
    Calls Try.prog 28 #[.int .i64 a] w fun e w' => e = .returned (.bool (nan a)) ∧ w' = w := by
  go_enter Try.func28, Try.ntmps28
  go_wp2
  go_ret
  exact ⟨rfl, rfl⟩

theorem class_nan (a : Int) (h0 : 0 ≤ a) (h1 : a < 4294967296) (hn : nan a = true) (w : World) :
    Calls Try.prog 10 #[.int .u32 a] w fun e w' => e = .returned (.int .i64 5) ∧ w' = w := by
  have := class_any a h0 h1 w
  rwa [cls_nan a hn h0 h1] at this

set_option maxHeartbeats 400000 in
theorem canon_any (a : Int) (h0 : 0 ≤ a) (h1 : a < 4294967296) (w : World) :
    Calls Try.prog 12 #[.int .u32 a] w fun e w' => e = .returned (.int .u32 (canon a)) ∧ w' = w := by
  cases hn : nan a
  · have hc : canon a = a := by unfold canon; simp [hn]
    have h5 : (cls a == 5) = false := by have := cls_num a hn h0 h1; simpa using this
    rw [hc]; clear hc hn
    go_enter Try.func12, Try.ntmps12
    go_wp2_with (go_at_call 10; refine (class_any _ h0 h1 _).mono ?_; rintro e w' ⟨rfl, rfl⟩)
    go_ret
    exact ⟨rfl, rfl⟩
  · have hc : canon a = 2143289344 := by unfold canon; simp [hn]
    rw [hc]; clear hc
    go_enter Try.func12, Try.ntmps12
    go_wp2_with (go_at_call 10; refine (class_nan _ h0 h1 hn _).mono ?_; rintro e w' ⟨rfl, rfl⟩)
    go_ret
    exact ⟨rfl, rfl⟩

set_option maxHeartbeats 400000 in
theorem rcanon_any (a : Int) (h0 : 0 ≤ a) (h1 : a < 4294967296) (w : World) :
    Calls Try.prog 13 #[.int .i64 a] w fun e w' => e = .returned (.int .i64 (canon a)) ∧ w' = w := by
  cases hn : nan a
  · have hc : canon a = a := by unfold canon; simp [hn]
    rw [hc]; clear hc
    go_enter Try.func13, Try.ntmps13
    go_wp2_with (go_at_call 28; refine (ris_any _ h0 h1 _).mono ?_; rintro e w' ⟨rfl, rfl⟩)
    go_ret
    exact ⟨rfl, rfl⟩
  · have hc : canon a = 2143289344 := by unfold canon; simp [hn]
    rw [hc]; clear hc
    go_enter Try.func13, Try.ntmps13
    go_wp2_with (go_at_call 28; refine (ris_any _ h0 h1 _).mono ?_; rintro e w' ⟨rfl, rfl⟩)
    go_ret
    exact ⟨rfl, rfl⟩

set_option maxHeartbeats 400000 in
theorem key_nan (a : Int) (h0 : 0 ≤ a) (h1 : a < 4294967296) (hn : nan a = true) (w : World) :
    Calls Try.prog 18 #[.int .u32 a] w fun e w' => e = .returned (.tuple #[.int .i64 0, .bool false]) ∧ w' = w := by
  go_enter Try.func18, Try.ntmps18
  go_wp2_with (go_at_call 10; refine (class_nan _ h0 h1 hn _).mono ?_; rintro e w' ⟨rfl, rfl⟩)
  go_ret2
  exact ⟨rfl, rfl⟩

set_option maxHeartbeats 400000 in
theorem key_num (a : Int) (h0 : 0 ≤ a) (h1 : a < 4294967296) (hn : nan a = false) (w : World) :
    Calls Try.prog 18 #[.int .u32 a] w fun e w' => e = .returned (.tuple #[.int .i64 (key a), .bool true]) ∧ w' = w := by
  have h5 : (cls a == 5) = false := by have := cls_num a hn h0 h1; simpa using this
  have e1 := and_sign_ne a h0 h1
  have e2 := less_sign a h0 h1
  by_cases hs : 2147483648 ≤ a
  · have hk : key a = -1 - a % 2147483648 := by unfold key; rw [if_pos hs]; omega
    rw [hk]; clear hk
    go_enter Try.func18, Try.ntmps18
    go_wp2_with (go_at_call 10; refine (class_any _ h0 h1 _).mono ?_; rintro e w' ⟨rfl, rfl⟩)
    go_ret2
    exact ⟨rfl, rfl⟩
  · have hk : key a = a := by unfold key; rw [if_neg hs]
    rw [hk]; clear hk
    go_enter Try.func18, Try.ntmps18
    go_wp2_with (go_at_call 10; refine (class_any _ h0 h1 _).mono ?_; rintro e w' ⟨rfl, rfl⟩)
    go_ret2
    exact ⟨rfl, rfl⟩

set_option maxHeartbeats 400000 in
theorem rkey_nan (a : Int) (h0 : 0 ≤ a) (h1 : a < 4294967296) (hn : nan a = true) (w : World) :
    Calls Try.prog 19 #[.int .i64 a] w fun e w' => e = .returned (.tuple #[.int .i64 0, .bool false]) ∧ w' = w := by
  go_enter Try.func19, Try.ntmps19
  go_wp2_with (go_at_call 28; refine (ris_any _ h0 h1 _).mono ?_; rintro e w' ⟨rfl, rfl⟩)
  go_ret2
  exact ⟨rfl, rfl⟩

set_option maxHeartbeats 400000 in
theorem rkey_num (a : Int) (h0 : 0 ≤ a) (h1 : a < 4294967296) (hn : nan a = false) (w : World) :
    Calls Try.prog 19 #[.int .i64 a] w fun e w' => e = .returned (.tuple #[.int .i64 (key a), .bool true]) ∧ w' = w := by
  by_cases hs : 2147483648 ≤ a
  · have hk : key a = -1 - (a - 2147483648) := by unfold key; rw [if_pos hs]
    rw [hk]; clear hk
    go_enter Try.func19, Try.ntmps19
    go_wp2_with (go_at_call 28; refine (ris_any _ h0 h1 _).mono ?_; rintro e w' ⟨rfl, rfl⟩)
    go_ret2
    exact ⟨rfl, rfl⟩
  · have hk : key a = a := by unfold key; rw [if_neg hs]
    rw [hk]; clear hk
    go_enter Try.func19, Try.ntmps19
    go_wp2_with (go_at_call 28; refine (ris_any _ h0 h1 _).mono ?_; rintro e w' ⟨rfl, rfl⟩)
    go_ret2
    exact ⟨rfl, rfl⟩

set_option maxHeartbeats 400000 in
theorem ofKey_any (k : Int) (h0 : -2147483648 ≤ k) (h1 : k < 2147483648) (w : World) :
    Calls Try.prog 29 #[.int .i64 k] w fun e w' => e = .returned (.int .u32 (ofKey k)) ∧ w' = w := by
  by_cases hs : k < 0
  · have e1 := sign_or (-1 - k) (by omega) (by omega)
    have e2 : IntKind.u32.wrap (-1 - k) = -1 - k := by rw [IntKind.wrap_u32']; omega
    have hk : ofKey k = 2147483648 + (-1 - k) := by unfold ofKey; rw [if_pos hs]
    rw [hk]; clear hk
    go_enter Try.func29, Try.ntmps29
    go_wp2
    go_ret
    exact ⟨rfl, rfl⟩
  · have e2 : IntKind.u32.wrap k = k := by rw [IntKind.wrap_u32']; omega
    have hk : ofKey k = k := by unfold ofKey; rw [if_neg hs]
    rw [hk]; clear hk
    go_enter Try.func29, Try.ntmps29
    go_wp2
    go_ret
    exact ⟨rfl, rfl⟩

set_option maxHeartbeats 400000 in
theorem rback_any (k : Int) (h0 : -2147483648 ≤ k) (h1 : k < 2147483648) (w : World) :
    Calls Try.prog 30 #[.int .i64 k] w fun e w' => e = .returned (.int .i64 (ofKey k)) ∧ w' = w := by
  by_cases hs : k < 0
  · have hk : ofKey k = 2147483648 + (-1 - k) := by unfold ofKey; rw [if_pos hs]
    rw [hk]; clear hk
    go_enter Try.func30, Try.ntmps30
    go_wp2
    go_ret
    exact ⟨rfl, rfl⟩
  · have hk : ofKey k = k := by unfold ofKey; rw [if_neg hs]
    rw [hk]; clear hk
    go_enter Try.func30, Try.ntmps30
    go_wp2
    go_ret
    exact ⟨rfl, rfl⟩

set_option maxHeartbeats 400000 in
theorem next_any (a : Int) (h0 : 0 ≤ a) (h1 : a < 4294967296) (w : World) :
    Calls Try.prog 20 #[.int .u32 a] w fun e w' => e = .returned (.int .u32 (next a)) ∧ w' = w := by
  cases hn : nan a
  · by_cases hi : a = 2139095040
    · subst hi
      rw [next_inf]
      go_enter Try.func20, Try.ntmps20
      go_wp2_with (go_at_call 18; refine (key_num _ h0 h1 hn _).mono ?_; rintro e w' ⟨rfl, rfl⟩)
      go_ret
      exact ⟨rfl, rfl⟩
    · rw [next_num a hn hi]
      have hk := key_lo a h0 h1 hn
      have hi' : (a == 2139095040) = false := by simpa using hi
      clear hi
      go_enter Try.func20, Try.ntmps20
      go_wp2_with (first | (go_at_call 18; refine (key_num _ h0 h1 hn _).mono ?_; rintro e w' ⟨rfl, rfl⟩) | (go_at_call 29; refine (ofKey_any _ (by omega) (by omega) _).mono ?_; rintro e w' ⟨rfl, rfl⟩))
      go_ret
      exact ⟨rfl, rfl⟩
  · rw [next_nan a hn]
    go_enter Try.func20, Try.ntmps20
    go_wp2_with (go_at_call 18; refine (key_nan _ h0 h1 hn _).mono ?_; rintro e w' ⟨rfl, rfl⟩)
    go_ret
    exact ⟨rfl, rfl⟩

set_option maxHeartbeats 400000 in
theorem prev_any (a : Int) (h0 : 0 ≤ a) (h1 : a < 4294967296) (w : World) :
    Calls Try.prog 21 #[.int .u32 a] w fun e w' => e = .returned (.int .u32 (prev a)) ∧ w' = w := by
  cases hn : nan a
  · by_cases hi : a = 4286578688
    · subst hi
      rw [prev_minf]
      go_enter Try.func21, Try.ntmps21
      go_wp2_with (go_at_call 18; refine (key_num _ h0 h1 hn _).mono ?_; rintro e w' ⟨rfl, rfl⟩)
      go_ret
      exact ⟨rfl, rfl⟩
    · rw [prev_num a hn hi]
      have hk := key_lo a h0 h1 hn
      have hi' : (a == 4286578688) = false := by simpa using hi
      clear hi
      go_enter Try.func21, Try.ntmps21
      go_wp2_with (first | (go_at_call 18; refine (key_num _ h0 h1 hn _).mono ?_; rintro e w' ⟨rfl, rfl⟩) | (go_at_call 29; refine (ofKey_any _ (by omega) (by omega) _).mono ?_; rintro e w' ⟨rfl, rfl⟩))
      go_ret
      exact ⟨rfl, rfl⟩
  · rw [prev_nan a hn]
    go_enter Try.func21, Try.ntmps21
    go_wp2_with (go_at_call 18; refine (key_nan _ h0 h1 hn _).mono ?_; rintro e w' ⟨rfl, rfl⟩)
    go_ret
    exact ⟨rfl, rfl⟩

set_option maxHeartbeats 400000 in
theorem rnext_any (a : Int) (h0 : 0 ≤ a) (h1 : a < 4294967296) (w : World) :
    Calls Try.prog 22 #[.int .i64 a] w fun e w' => e = .returned (.int .i64 (next a)) ∧ w' = w := by
  cases hn : nan a
  · by_cases hi : a = 2139095040
    · subst hi
      rw [next_inf]
      go_enter Try.func22, Try.ntmps22
      go_wp2_with (go_at_call 19; refine (rkey_num _ h0 h1 hn _).mono ?_; rintro e w' ⟨rfl, rfl⟩)
      go_ret
      exact ⟨rfl, rfl⟩
    · rw [next_num a hn hi]
      have hk := key_lo a h0 h1 hn
      have hi' : (a == 2139095040) = false := by simpa using hi
      clear hi
      go_enter Try.func22, Try.ntmps22
      go_wp2_with (first | (go_at_call 19; refine (rkey_num _ h0 h1 hn _).mono ?_; rintro e w' ⟨rfl, rfl⟩) | (go_at_call 30; refine (rback_any _ (by omega) (by omega) _).mono ?_; rintro e w' ⟨rfl, rfl⟩))
      go_ret
      exact ⟨rfl, rfl⟩
  · rw [next_nan a hn]
    go_enter Try.func22, Try.ntmps22
    go_wp2_with (go_at_call 19; refine (rkey_nan _ h0 h1 hn _).mono ?_; rintro e w' ⟨rfl, rfl⟩)
    go_ret
    exact ⟨rfl, rfl⟩

set_option maxHeartbeats 400000 in
theorem rprev_any (a : Int) (h0 : 0 ≤ a) (h1 : a < 4294967296) (w : World) :
    Calls Try.prog 23 #[.int .i64 a] w fun e w' => e = .returned (.int .i64 (prev a)) ∧ w' = w := by
  cases hn : nan a
  · by_cases hi : a = 4286578688
    · subst hi
      rw [prev_minf]
      go_enter Try.func23, Try.ntmps23
      go_wp2_with (go_at_call 19; refine (rkey_num _ h0 h1 hn _).mono ?_; rintro e w' ⟨rfl, rfl⟩)
      go_ret
      exact ⟨rfl, rfl⟩
    · rw [prev_num a hn hi]
      have hk := key_lo a h0 h1 hn
      have hi' : (a == 4286578688) = false := by simpa using hi
      clear hi
      go_enter Try.func23, Try.ntmps23
      go_wp2_with (first | (go_at_call 19; refine (rkey_num _ h0 h1 hn _).mono ?_; rintro e w' ⟨rfl, rfl⟩) | (go_at_call 30; refine (rback_any _ (by omega) (by omega) _).mono ?_; rintro e w' ⟨rfl, rfl⟩))
      go_ret
      exact ⟨rfl, rfl⟩
  · rw [prev_nan a hn]
    go_enter Try.func23, Try.ntmps23
    go_wp2_with (go_at_call 19; refine (rkey_nan _ h0 h1 hn _).mono ?_; rintro e w' ⟨rfl, rfl⟩)
    go_ret
    exact ⟨rfl, rfl⟩

set_option maxHeartbeats 400000 in
theorem make_ok (m : Bool) (e f : Int) (h0 : 0 ≤ e) (h1 : e ≤ 255) (g0 : 0 ≤ f) (g1 : f ≤ 8388607) (w : World) :
    Calls Try.prog 16 #[.bool m, .int .i64 e, .int .i64 f] w fun e' w' => e' = .returned (.tuple #[.int .u32 (mk m e f), .int .i64 0]) ∧ w' = w := by
  have e1 : IntKind.u32.wrap e = e := by rw [IntKind.wrap_u32']; omega
  have e2 : IntKind.u32.wrap f = f := by rw [IntKind.wrap_u32']; omega
  have e3 : IntKind.u32.wrap (e * 8388608) = e * 8388608 := by rw [IntKind.wrap_u32']; omega
  have e4 := or_parts e f h0 h1 g0 g1
  have e5 := or_sign (e * 8388608 + f) (by omega) (by omega)
  cases m
  · rw [show mk false e f = e * 8388608 + f from rfl]
    go_enter Try.func16, Try.ntmps16
    go_wp2
    go_ret2
    exact ⟨rfl, rfl⟩
  · rw [show mk true e f = e * 8388608 + f + 2147483648 from rfl]
    go_enter Try.func16, Try.ntmps16
    go_wp2
    go_ret2
    exact ⟨rfl, rfl⟩

set_option maxHeartbeats 400000 in
theorem make_bad (m : Bool) (e f : Int) (h : okParts e f = false) (w : World) :
    Calls Try.prog 16 #[.bool m, .int .i64 e, .int .i64 f] w fun e' w' => e' = .returned (.tuple #[.int .u32 0, .int .i64 1]) ∧ w' = w := by
  have h' : ¬ (0 ≤ e ∧ e ≤ 255 ∧ 0 ≤ f ∧ f ≤ 8388607) := by unfold okParts at h; simpa using h
  clear h
  by_cases c1 : e < 0
  · clear h'
    go_enter Try.func16, Try.ntmps16
    go_wp2
    go_ret2
    exact ⟨rfl, rfl⟩
  · by_cases c2 : 255 < e
    · clear h'
      go_enter Try.func16, Try.ntmps16
      go_wp2
      go_ret2
      exact ⟨rfl, rfl⟩
    · by_cases c3 : f < 0
      · clear h'
        go_enter Try.func16, Try.ntmps16
        go_wp2
        go_ret2
        exact ⟨rfl, rfl⟩
      · have c4 : 8388607 < f := by omega
        clear h'
        go_enter Try.func16, Try.ntmps16
        go_wp2
        go_ret2
        exact ⟨rfl, rfl⟩

set_option maxHeartbeats 400000 in
theorem rmake_ok (m : Bool) (e f : Int) (h0 : 0 ≤ e) (h1 : e ≤ 255) (g0 : 0 ≤ f) (g1 : f ≤ 8388607) (w : World) :
    Calls Try.prog 17 #[.bool m, .int .i64 e, .int .i64 f] w fun e' w' => e' = .returned (.tuple #[.int .i64 (mk m e f), .int .i64 0]) ∧ w' = w := by
  cases m
  · rw [show mk false e f = e * 8388608 + f from rfl]
    go_enter Try.func17, Try.ntmps17
    go_wp2
    go_ret2
    exact ⟨rfl, rfl⟩
  · rw [show mk true e f = e * 8388608 + f + 2147483648 from rfl]
    go_enter Try.func17, Try.ntmps17
    go_wp2
    go_ret2
    exact ⟨rfl, rfl⟩

set_option maxHeartbeats 400000 in
theorem rmake_bad (m : Bool) (e f : Int) (h : okParts e f = false) (w : World) :
    Calls Try.prog 17 #[.bool m, .int .i64 e, .int .i64 f] w fun e' w' => e' = .returned (.tuple #[.int .i64 0, .int .i64 1]) ∧ w' = w := by
  have h' : ¬ (0 ≤ e ∧ e ≤ 255 ∧ 0 ≤ f ∧ f ≤ 8388607) := by unfold okParts at h; simpa using h
  clear h
  by_cases c1 : e < 0
  · clear h'
    go_enter Try.func17, Try.ntmps17
    go_wp2
    go_ret2
    exact ⟨rfl, rfl⟩
  · by_cases c2 : 255 < e
    · clear h'
      go_enter Try.func17, Try.ntmps17
      go_wp2
      go_ret2
      exact ⟨rfl, rfl⟩
    · by_cases c3 : f < 0
      · clear h'
        go_enter Try.func17, Try.ntmps17
        go_wp2
        go_ret2
        exact ⟨rfl, rfl⟩
      · have c4 : 8388607 < f := by omega
        clear h'
        go_enter Try.func17, Try.ntmps17
        go_wp2
        go_ret2
        exact ⟨rfl, rfl⟩

theorem key_any (a : Int) (h0 : 0 ≤ a) (h1 : a < 4294967296) (w : World) :
    Calls Try.prog 18 #[.int .u32 a] w fun e w' => e = .returned (.tuple #[.int .i64 (keyV a), .bool (!nan a)]) ∧ w' = w := by
  cases hn : nan a
  · rw [keyV_num a hn]; exact key_num a h0 h1 hn w
  · rw [keyV_nan a hn]; exact key_nan a h0 h1 hn w

theorem rkey_any (a : Int) (h0 : 0 ≤ a) (h1 : a < 4294967296) (w : World) :
    Calls Try.prog 19 #[.int .i64 a] w fun e w' => e = .returned (.tuple #[.int .i64 (keyV a), .bool (!nan a)]) ∧ w' = w := by
  cases hn : nan a
  · rw [keyV_num a hn]; exact rkey_num a h0 h1 hn w
  · rw [keyV_nan a hn]; exact rkey_nan a h0 h1 hn w

def mkV (m : Bool) (e f : Int) : Int := if okParts e f then mk m e f else 0
def mkE (e f : Int) : Int := if okParts e f then 0 else 1

theorem make_any (m : Bool) (e f : Int) (w : World) :
    Calls Try.prog 16 #[.bool m, .int .i64 e, .int .i64 f] w fun e' w' => e' = .returned (.tuple #[.int .u32 (mkV m e f), .int .i64 (mkE e f)]) ∧ w' = w := by
  unfold mkV mkE
  cases hn : okParts e f
  · simp only [Bool.false_eq_true, if_false]; exact make_bad m e f hn w
  · have h : 0 ≤ e ∧ e ≤ 255 ∧ 0 ≤ f ∧ f ≤ 8388607 := by unfold okParts at hn; simpa using hn
    simp only [if_true]; exact make_ok m e f h.1 h.2.1 h.2.2.1 h.2.2.2 w

theorem rmake_any (m : Bool) (e f : Int) (w : World) :
    Calls Try.prog 17 #[.bool m, .int .i64 e, .int .i64 f] w fun e' w' => e' = .returned (.tuple #[.int .i64 (mkV m e f), .int .i64 (mkE e f)]) ∧ w' = w := by
  unfold mkV mkE
  cases hn : okParts e f
  · simp only [Bool.false_eq_true, if_false]; exact rmake_bad m e f hn w
  · have h : 0 ≤ e ∧ e ≤ 255 ∧ 0 ≤ f ∧ f ≤ 8388607 := by unfold okParts at hn; simpa using hn
    simp only [if_true]; exact rmake_ok m e f h.1 h.2.1 h.2.2.1 h.2.2.2 w

theorem mkV_lo (m : Bool) (e f : Int) : 0 ≤ mkV m e f ∧ mkV m e f < 4294967296 := by
  unfold mkV
  cases hn : okParts e f
  · simp
  · have h : 0 ≤ e ∧ e ≤ 255 ∧ 0 ≤ f ∧ f ≤ 8388607 := by unfold okParts at hn; simpa using hn
    simp only [if_true]; exact mk_lo m e f h.1 h.2.1 h.2.2.1 h.2.2.2

end Go.Proofs.Ytblaokffocegiaa
