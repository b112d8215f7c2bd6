import Derived.Test.YtmiidhgbdecdkaaGreatPart3
import Derived.Deep.QuietTactic
import Derived.BigQuiet
import Derived.LoopN
import Derived.Maps.AppendAt
import Derived.Deep.OwnRows
import Derived.Deep.DeepCutAuto
import Derived.OwnWalk
import Derived.Test.YtmiidhgbdecdkaaGreatPart1
namespace Go.Proofs.YtmiidhgbdecdkaaGreat
open Go.RowKit
set_option linter.unusedVariables false
set_option linter.unusedSimpArgs false
set_option maxRecDepth 100000 in
set_option maxHeartbeats 2000000 in
theorem rows_any (w : World) :
  Calls Tryz.prog 16 #[] w fun e w' => ∃ v, e = .returned v ∧ RowsAt w.heap.size w' v rowsA ∧ Below w.heap.size w w' := by
 obtain ⟨W, hW, hX, hB, hs⟩ := new_box w
 obtain ⟨⟨g0, g1, g2, g3, g4, g5, g6⟩, f0, f1, f2, f3, f4, f5, f6⟩ := sevenA hX
 go_enter Tryz.func16, Tryz.ntmps16
 go_upto_region 3 with fail
 obtain ⟨V, hV⟩ : ∃ V, ((((((((W.setCell ⟨w.heap.size, 0, none⟩ (.int .i64 0)).setCell ⟨w.heap.size, 1, none⟩ (.string ⟨#[]⟩)).setCell ⟨w.heap.size, 2, none⟩ (.int .u32 0)).setCell ⟨w.heap.size, 3, none⟩ (.int .i64 0)).setCell ⟨w.heap.size, 4, none⟩ (.string ⟨#[]⟩)).setCell ⟨w.heap.size, 5, none⟩ (.slice none 0 0)).setCell ⟨w.heap.size, 6, none⟩ (.int .i64 0))) = V := ⟨_, rfl⟩
 have hN : V.heap[w.heap.size]? = some (.cells #[.int .i64 0, .string ⟨#[]⟩, .int .u32 0, .int .i64 0, .string ⟨#[]⟩, .slice none 0 0, .int .i64 0] 29) := by rw [← hV]; exact put_sevenA hX _ _ _ _ _ _ _
 have hVs : V.heap.size = w.heap.size + 1 := by rw [← hV]; simp [hs]
 have hBV : Below w.heap.size w V := by rw [← hV]; exact below_seven hB _ _ _ _ _ _ _
 rw [hV]
 have hbA := (Below.refl V.heap.size V).alloc (Nat.le_refl _) (.cells (([⟨#[114, 97, 116, 101]⟩, ⟨#[98, 49]⟩, ⟨#[98, 50]⟩, ⟨#[101, 112, 115]⟩, ⟨#[101, 112, 115, 95, 114, 111, 111, 116]⟩] : List ByteArray).map Value.string).toArray 9)
 have hA := strs_new (B := w.heap.size) V (by omega) [⟨#[114, 97, 116, 101]⟩, ⟨#[98, 49]⟩, ⟨#[98, 50]⟩, ⟨#[101, 112, 115]⟩, ⟨#[101, 112, 115, 95, 114, 111, 111, 116]⟩] 9
 have hN2 : (V.alloc (.cells (([⟨#[114, 97, 116, 101]⟩, ⟨#[98, 49]⟩, ⟨#[98, 50]⟩, ⟨#[101, 112, 115]⟩, ⟨#[101, 112, 115, 95, 114, 111, 111, 116]⟩] : List ByteArray).map Value.string).toArray 9)).heap[w.heap.size]? = _ := (hbA.block _ (Array.getElem?_eq_some_iff.1 hN).1).trans hN
 have hB2 := bel hBV hbA
 obtain ⟨U, hU⟩ : ∃ U, V.alloc (.cells (([⟨#[114, 97, 116, 101]⟩, ⟨#[98, 49]⟩, ⟨#[98, 50]⟩, ⟨#[101, 112, 115]⟩, ⟨#[101, 112, 115, 95, 114, 111, 111, 116]⟩] : List ByteArray).map Value.string).toArray 9) = U := ⟨_, rfl⟩
 rw [hU] at hA hN2 hB2
 rw [hVs] at hA
 change Code.wp Tryz.prog (Code.region 3 opsR true) _ _ (V.alloc (.cells (([⟨#[114, 97, 116, 101]⟩, ⟨#[98, 49]⟩, ⟨#[98, 50]⟩, ⟨#[101, 112, 115]⟩, ⟨#[101, 112, 115, 95, 114, 111, 111, 116]⟩] : List ByteArray).map Value.string).toArray 9))
 rw [hU]
 refine wp_region_each (by kernel_rfl) (baseR w.heap.size (w.heap.size + 1)) (PostR w.heap.size) opsR_early (show eachOk opsR 135 [1, 2] = true from opsR_each) (PostR.stable _) ?_ (fun i o ho a v hd hb hF => step_all i o ho a v (by have := hb.size; have := hB2.size; omega) ((hb.block _ (Array.getElem?_eq_some_iff.1 hN2).1).trans hN2) (hA.below hb) hF _ (fun x w' h1 h2 => ⟨x, rfl, h1, h2⟩)) ?_
 ·intro p hp
  simp [baseR] at hp
  rcases hp with rfl | rfl <;> rfl
 ·intro a v hd hs hb hrest hposts
  have h130 : (opsR[130]?).map (·.dst) = some (some 0) := by kernel_rfl
  cases ho : opsR[130]? with
  | none => rw [ho] at h130; simp at h130
  | some o =>
   rw [ho] at h130
   obtain ⟨x, hx, hp⟩ := hposts 130 o 0 ho (by simpa using h130)
   have hr : RowsAt w.heap.size v x rowsA := hp
   clear hposts hrest
   go_wp2
   refine bodyPost_ret (results_tmp rfl _ _ _) hd ?_
   rw [show a.tmps.getD 0 undef = x by rw [Array.getD_eq_getD_getElem?, hx]; rfl]
   exact ⟨x, rfl, hr, bel hB2 hb⟩
end Go.Proofs.YtmiidhgbdecdkaaGreat
namespace Go.Proofs.YtmiidhgbdecdkaaGreat
open Go.RowKit
set_option linter.unusedVariables false
set_option linter.unusedSimpArgs false
end Go.Proofs.YtmiidhgbdecdkaaGreat
namespace Go.Proofs.YtmiidhgbdecdkaaGreat
open Go.RowKit
set_option linter.unusedVariables false
set_option linter.unusedSimpArgs false
end Go.Proofs.YtmiidhgbdecdkaaGreat
namespace Go.Proofs.YtmiidhgbdecdkaaGreat
open Go.RowKit
set_option linter.unusedVariables false
set_option linter.unusedSimpArgs false
theorem take_succA {α : Type} {l : List α} {i : Nat} (h : i < l.length) : l.take (i + 1) = l.take i ++ [l[i]] := by simp
end Go.Proofs.YtmiidhgbdecdkaaGreat
namespace Go.Proofs.YtmiidhgbdecdkaaGreat
open Go.RowKit
set_option linter.unusedVariables false
set_option linter.unusedSimpArgs false
end Go.Proofs.YtmiidhgbdecdkaaGreat
namespace Go.Proofs.YtmiidhgbdecdkaaGreat
open Go.RowKit
set_option linter.unusedVariables false
set_option linter.unusedSimpArgs false
theorem rows_len : ∀ r ∈ rowsA, r.args.length ≤ 7 ∧ r.vals.length = r.args.length := by
 intro r hr
 simp only [rowsA, List.mem_cons, List.not_mem_nil, or_false] at hr
 rcases hr with rfl | rfl | rfl | rfl | rfl | rfl | rfl | rfl | rfl | rfl | rfl | rfl | rfl | rfl | rfl | rfl | rfl <;> exact ⟨by decide, rfl⟩
end Go.Proofs.YtmiidhgbdecdkaaGreat
namespace Go.Proofs.YtmiidhgbdecdkaaGreat
open Go.RowKit
set_option linter.unusedVariables false
set_option linter.unusedSimpArgs false
end Go.Proofs.YtmiidhgbdecdkaaGreat
namespace Go.Proofs.YtmiidhgbdecdkaaGreat
open Go.RowKit
set_option linter.unusedVariables false
set_option linter.unusedSimpArgs false
end Go.Proofs.YtmiidhgbdecdkaaGreat
namespace Go.Proofs.YtmiidhgbdecdkaaGreat
open Go.RowKit
set_option linter.unusedVariables false
set_option linter.unusedSimpArgs false
end Go.Proofs.YtmiidhgbdecdkaaGreat
namespace Go.Proofs.YtmiidhgbdecdkaaGreat
open Go.RowKit
set_option linter.unusedVariables false
set_option linter.unusedSimpArgs false
def meantP (l : List (ByteArray × Nd)) (nm : ByteArray) : Nat → Option Nat
 | 0 => none
 | k + 1 => if (match l[k]? with | some x => sameB x.1 nm | none => false) then some k else meantP l nm k
def meantV (l : List (ByteArray × Nd)) (nm : ByteArray) (k : Nat) : Int := match meantP l nm k with | some i => (i : Int) | none => -1
theorem meantP_yes {l : List (ByteArray × Nd)} {nm : ByteArray} {k : Nat} (hk : k < l.length) (h : sameB l[k].1 nm = true) : meantP l nm (k + 1) = some k := by
 rw [meantP, List.getElem?_eq_getElem hk]
 simp [h]
theorem meantP_no {l : List (ByteArray × Nd)} {nm : ByteArray} {k : Nat} (hk : k < l.length) (h : sameB l[k].1 nm = false) : meantP l nm (k + 1) = meantP l nm k := by
 rw [meantP, List.getElem?_eq_getElem hk]
 simp [h]
theorem meantP_lt {l : List (ByteArray × Nd)} {nm : ByteArray} : ∀ {k i : Nat}, meantP l nm k = some i → i < k
 | 0, i, h => by simp [meantP] at h
 | k + 1, i, h => by
  rw [meantP] at h
  cases hc : (match l[k]? with | some x => sameB x.1 nm | none => false) with
  | true => rw [hc] at h; simp at h; omega
  | false =>
   rw [hc] at h
   have := meantP_lt (l := l) (nm := nm) (k := k) (i := i) (by simpa using h)
   omega
theorem look_meant {l : List (ByteArray × Nd)} {nm : ByteArray} : ∀ {k : Nat}, k ≤ l.length → lookE (envA (l.take k)) nm = match meantP l nm k with | some i => (l[i]?).map (fun x => wrN (envA (l.take i)) x.2) | none => none
 | 0, _ => by simp [meantP, lookE, envA]
 | k + 1, hk => by
  have hkl : k < l.length := by omega
  rw [take_succA hkl, envA_snoc]
  cases hs : sameB l[k].1 nm with
  | true =>
   rw [meantP_yes hkl hs]
   simp [lookE, hs, hkl]
  | false =>
   rw [meantP_no hkl hs, ← look_meant (by omega)]
   simp [lookE, hs]
end Go.Proofs.YtmiidhgbdecdkaaGreat
namespace Go.Proofs.YtmiidhgbdecdkaaGreat
open Go.RowKit
set_option linter.unusedVariables false
set_option linter.unusedSimpArgs false
def byteAt (s : ByteArray) (j : Nat) : Int := match s.data[j]? with | some c => (c.toNat : Int) | none => 0
def allAt (q : Nat → Int → Bool) (s : ByteArray) : Bool := (List.range s.size).all fun j => q j (byteAt s j)
theorem byteAt_eq {s : ByteArray} {j : Nat} (h : j < s.size) : byteAt s j = (s[j].toNat : Int) := by
 unfold byteAt
 rw [Array.getElem?_eq_getElem (show j < s.data.size from h)]
 rfl
theorem allAt_bad {q : Nat → Int → Bool} {s : ByteArray} {j : Nat} (h : j < s.size) (hq : q j (s[j].toNat : Int) = false) : allAt q s = false := by
 unfold allAt
 rw [List.all_eq_false]
 exact ⟨j, List.mem_range.2 h, by rw [byteAt_eq h, hq]; decide⟩
theorem allAt_good {q : Nat → Int → Bool} {s : ByteArray} (h : ∀ j (h : j < s.size), q j (s[j].toNat : Int) = true) : allAt q s = true := by
 unfold allAt
 rw [List.all_eq_true]
 intro j hj
 have := List.mem_range.1 hj
 rw [byteAt_eq this]
 exact h j this
def qName (j : Nat) (c : Int) : Bool := pLetter c || (j != 0 && pDigit c)
def qText (j : Nat) (c : Int) : Bool := pInText c
def nameP (s : ByteArray) : Bool := allAt qName s && s.size != 0
def textP (s : ByteArray) : Bool := allAt qText s
theorem nonempty (s : ByteArray) : (s.toList == []) = (s.size == 0) := by
 rw [Bool.eq_iff_iff]
 simp only [beq_iff_eq]
 constructor
 ·intro h
  rw [ByteArray.toList_eq] at h
  show s.data.size = 0
  rw [← Array.length_toList, h]; rfl
 ·intro h
  rw [ByteArray.toList_eq]
  exact List.eq_nil_of_length_eq_zero (by rw [Array.length_toList]; exact h)
theorem isEmpty_size (s : ByteArray) : s.toList.isEmpty = (s.size == 0) := by
 rw [← nonempty, Bool.eq_iff_iff]
 simp
set_option maxHeartbeats 400000 in
theorem isLetter_any (c : Int) (w : World) : Calls Tryz.prog 130 #[.int .u8 c] w fun e w' => e = .returned (.bool (pLetter c)) ∧ w' = w := by
 unfold pLetter
 go_enter Tryz.func130, Tryz.ntmps130
 go_wp2
 all_goals (go_ret; refine ⟨ret_bool ?_, rfl⟩; first | (simp_all; done) | (simp_all; omega) | (rw [Bool.eq_iff_iff]; simp_all; omega))
set_option maxHeartbeats 400000 in
theorem isDigit_any (c : Int) (w : World) : Calls Tryz.prog 131 #[.int .u8 c] w fun e w' => e = .returned (.bool (pDigit c)) ∧ w' = w := by
 unfold pDigit
 go_enter Tryz.func131, Tryz.ntmps131
 go_wp2
 all_goals (go_ret; refine ⟨ret_bool ?_, rfl⟩; first | (simp_all; done) | (simp_all; omega) | (rw [Bool.eq_iff_iff]; simp_all; omega))
set_option maxHeartbeats 1000000 in
theorem isName_any (s : ByteArray) (hs : s.size ≤ 140737488351232) (w : World) :
  Calls Tryz.prog 107 #[.string s] w fun e w' => e = .returned (.bool (nameP s)) ∧ w' = w := by
 go_enter Tryz.func107, Tryz.ntmps107
 go_wp2
 go_loopw [6] (fun iv wr => wr = w ∧ ∃ j : Nat, j ≤ s.size ∧ iv = .int .i64 j ∧ Hid (∀ i (h : i < s.size), i < j → qName i (s[i].toNat : Int) = true)) (fun iv _ => s.size - (intOf iv).toNat)
 case atStart => exact ⟨rfl, 0, Nat.zero_le _, rfl, fun i h hi => absurd hi (Nat.not_lt_zero _)⟩
 case round =>
  obtain ⟨rfl, j, hj, rfl, hp⟩ := hrel
  by_cases hlt : j < s.size
  ·have i1 : (0 : Int) ≤ (j : Int) := by omega
   have i2 : (j : Int) < (s.size : Int) := by omega
   obtain ⟨c, hc⟩ : ∃ c : Int, c = (s[j].toNat : Int) := ⟨_, rfl⟩
   have KL := isLetter_any c
   have KD := isDigit_any c
   rw [hc] at KL KD
   have HQ : Hid (qName j (s[j].toNat : Int) = (pLetter (s[j].toNat : Int) || (j != 0 && pDigit (s[j].toNat : Int)))) := rfl
   have NX : Hid (qName j (s[j].toNat : Int) = true → ∀ i (h : i < s.size), i < j + 1 → qName i (s[i].toNat : Int) = true) := fun hq i h hi => by
    by_cases e : i = j
    ·subst e; exact hq
    ·exact hp.out i h (by omega)
   cases hL : pLetter (s[j].toNat : Int)
   ·by_cases j0 : j = 0
    ·rw [hL] at KL
     have HK : Hid (∀ w, Calls Tryz.prog 130 #[.int .u8 (s[j].toNat : Int)] w fun e w' => e = .returned (.bool false) ∧ w' = w) := KL
     have HL : Hid (pLetter (s[j].toNat : Int) = false) := hL
     have z1 : ((j : Int) == 0) = true := by simp [j0]
     have J0 : Hid (j = 0) := j0
     clear KL KD hL hc j0
     go_wp2_with (go_at_call 130; refine (HK.out _).mono ?_; rintro e w1 ⟨rfl, rfl⟩)
     go_ret
     exact ⟨ret_bool (by unfold nameP; rw [allAt_bad hlt (by rw [HQ.out, HL.out]; simp [J0.out])]; rfl), rfl⟩
    ·cases hD : pDigit (s[j].toNat : Int)
     ·rw [hL] at KL
      rw [hD] at KD
      have HK : Hid (∀ w, Calls Tryz.prog 130 #[.int .u8 (s[j].toNat : Int)] w fun e w' => e = .returned (.bool false) ∧ w' = w) := KL
      have HK2 : Hid (∀ w, Calls Tryz.prog 131 #[.int .u8 (s[j].toNat : Int)] w fun e w' => e = .returned (.bool false) ∧ w' = w) := KD
      have HL : Hid (pLetter (s[j].toNat : Int) = false) := hL
      have HD : Hid (pDigit (s[j].toNat : Int) = false) := hD
      have z1 : ((j : Int) == 0) = false := by simp [j0]
      clear KL KD hL hc hD
      go_wp2_with (first | (go_at_call 130; refine (HK.out _).mono ?_; rintro e w1 ⟨rfl, rfl⟩) | (go_at_call 131; refine (HK2.out _).mono ?_; rintro e w1 ⟨rfl, rfl⟩))
      go_ret
      exact ⟨ret_bool (by unfold nameP; rw [allAt_bad hlt (by rw [HQ.out, HL.out, HD.out]; simp)]; rfl), rfl⟩
     ·rw [hL] at KL
      rw [hD] at KD
      have HK : Hid (∀ w, Calls Tryz.prog 130 #[.int .u8 (s[j].toNat : Int)] w fun e w' => e = .returned (.bool false) ∧ w' = w) := KL
      have HK2 : Hid (∀ w, Calls Tryz.prog 131 #[.int .u8 (s[j].toNat : Int)] w fun e w' => e = .returned (.bool true) ∧ w' = w) := KD
      have HG : Hid (qName j (s[j].toNat : Int) = true) := show qName j (s[j].toNat : Int) = true by rw [HQ.out, hL, hD]; simp [j0]
      have z1 : ((j : Int) == 0) = false := by simp [j0]
      clear KL KD hL hc hD
      go_wp2_with (first | (go_at_call 130; refine (HK.out _).mono ?_; rintro e w1 ⟨rfl, rfl⟩) | (go_at_call 131; refine (HK2.out _).mono ?_; rintro e w1 ⟨rfl, rfl⟩))
      go_roundw
      case rel => exact ⟨by trivial, j + 1, by omega, by go_num, NX.out HG.out⟩
      case measure => simp [intOf]; omega
   ·rw [hL] at KL
    have HK : Hid (∀ w, Calls Tryz.prog 130 #[.int .u8 (s[j].toNat : Int)] w fun e w' => e = .returned (.bool true) ∧ w' = w) := KL
    have HG : Hid (qName j (s[j].toNat : Int) = true) := by rw [HQ.out, hL]; rfl
    clear KL KD hL hc
    go_wp2_with (go_at_call 130; refine (HK.out _).mono ?_; rintro e w1 ⟨rfl, rfl⟩)
    go_roundw
    case rel => exact ⟨by trivial, j + 1, by omega, by go_num, NX.out HG.out⟩
    case measure => simp [intOf]; omega
  ·have : j = s.size := by omega
   subst this
   go_wp2
   go_ret
   refine ⟨ret_bool ?_, rfl⟩
   unfold nameP
   rw [allAt_good fun i h => hp.out i h h]
   have e := isEmpty_size s
   rw [Bool.true_and]
   first | (rw [e]; rfl) | (simp [e]; done)
set_option maxHeartbeats 1000000 in
theorem isText_any (s : ByteArray) (hs : s.size ≤ 140737488351232) (w : World) :
  Calls Tryz.prog 110 #[.string s] w fun e w' => e = .returned (.bool (textP s)) ∧ w' = w := by
 go_enter Tryz.func110, Tryz.ntmps110
 go_wp2
 go_loopw [7] (fun iv wr => wr = w ∧ ∃ j : Nat, j ≤ s.size ∧ iv = .int .i64 j ∧ Hid (∀ i (h : i < s.size), i < j → qText i (s[i].toNat : Int) = true)) (fun iv _ => s.size - (intOf iv).toNat)
 case atStart => exact ⟨rfl, 0, Nat.zero_le _, rfl, fun i h hi => absurd hi (Nat.not_lt_zero _)⟩
 case round =>
  obtain ⟨rfl, j, hj, rfl, hp⟩ := hrel
  by_cases hlt : j < s.size
  ·have i1 : (0 : Int) ≤ (j : Int) := by omega
   have i2 : (j : Int) < (s.size : Int) := by omega
   have HQ : Hid (qText j (s[j].toNat : Int) = ((decide (32 ≤ (s[j].toNat : Int)) && decide ((s[j].toNat : Int) ≤ 126)) && (s[j].toNat : Int) != 34)) := rfl
   have NX : Hid (qText j (s[j].toNat : Int) = true → ∀ i (h : i < s.size), i < j + 1 → qText i (s[i].toNat : Int) = true) := fun hq i h hi => by
    by_cases e : i = j
    ·subst e; exact hq
    ·exact hp.out i h (by omega)
   by_cases g : 32 ≤ (s[j].toNat : Int) ∧ (s[j].toNat : Int) ≤ 126 ∧ ¬ ((s[j].toNat : Int) = 34)
   ·have HG : Hid (qText j (s[j].toNat : Int) = true) := show qText j (s[j].toNat : Int) = true by rw [HQ.out]; simp [g.1, g.2.1, g.2.2]
    obtain ⟨g1, g2, g3⟩ := g
    have z1 : ¬ ((s[j].toNat : Int) < 32) := by omega
    have z2 : ¬ (126 < (s[j].toNat : Int)) := by omega
    clear g1 g2
    go_wp2
    go_roundw
    case rel => exact ⟨by trivial, j + 1, by omega, by go_num, NX.out HG.out⟩
    case measure => simp [intOf]; omega
   ·have HG : Hid (qText j (s[j].toNat : Int) = false) := show qText j (s[j].toNat : Int) = false by
     rw [HQ.out, Bool.eq_false_iff]
     intro h
     simp only [Bool.and_eq_true, decide_eq_true_eq, bne_iff_ne] at h
     exact g ⟨h.1.1, h.1.2, h.2⟩
    by_cases z1 : (s[j].toNat : Int) < 32
    ·clear g
     go_wp2
     go_ret
     exact ⟨ret_bool (allAt_bad hlt HG.out).symm, rfl⟩
    ·by_cases z2 : 126 < (s[j].toNat : Int)
     ·clear g
      go_wp2
      go_ret
      exact ⟨ret_bool (allAt_bad hlt HG.out).symm, rfl⟩
     ·have z3 : ((s[j].toNat : Int) == 34) = true := by rw [beq_iff_eq]; omega
      clear g
      go_wp2
      go_ret
      exact ⟨ret_bool (allAt_bad hlt HG.out).symm, rfl⟩
  ·have : j = s.size := by omega
   subst this
   go_wp2
   go_ret
   exact ⟨ret_bool (allAt_good fun i h => hp.out i h h).symm, rfl⟩
end Go.Proofs.YtmiidhgbdecdkaaGreat
namespace Go.Proofs.YtmiidhgbdecdkaaGreat
open Go.RowKit
set_option linter.unusedVariables false
set_option linter.unusedSimpArgs false
def finP (a : Int) : Bool := decide (a % 2147483648 < 2139095040)
def novP (t : Nd) : Bool := t.num == 0 && t.int_ == 0
def bindsP : List Nd → Bool
 | [v, r] => v.kind != 6 && (r.kind == 6 || r.kind == 1) && v.key.toList.isEmpty && r.key.toList.isEmpty
 | _ => false
def kindP (t : Nd) : Bool :=
 if t.kind = 1 then nameP t.name && novP t
 else if t.kind = 2 then t.name.toList.isEmpty && finP t.num && t.int_ == 0 && (t.args.length : Int) == 0
 else if t.kind = 3 then t.name.toList.isEmpty && t.num == 0 && decide (-2147483647 ≤ t.int_) && decide (t.int_ ≤ 2147483647) && (t.args.length : Int) == 0
 else if t.kind = 4 then nameP t.name && novP t && (t.args.length : Int) == 0
 else if t.kind = 5 then textP t.name && novP t && (t.args.length : Int) == 0
 else if t.kind = 6 then nameP t.name && !(t.name.toList == [116, 114, 117, 101]) && !(t.name.toList == [102, 97, 108, 115, 101]) && novP t && bindsP t.args
 else false
set_option maxHeartbeats 400000 in
theorem hasNoValue_any (b o : Nat) (x i : Int) (w : World) (h2 : w.cell? ⟨b, o + 2, none⟩ = some (.int .u32 x)) (h3 : w.cell? ⟨b, o + 3, none⟩ = some (.int .i64 i)) :
  Calls Tryz.prog 108 #[.pointer (some ⟨b, o, none⟩)] w fun e w' => e = .returned (.bool (x == 0 && i == 0)) ∧ w' = w := by
 go_enter Tryz.func108, Tryz.ntmps108
 go_wp2
 all_goals (go_ret; refine ⟨ret_bool ?_, rfl⟩; simp_all)
set_option maxHeartbeats 400000 in
theorem isFinite_any (a : Int) (h0 : 0 ≤ a) (h1 : a < 4294967296) (w : World) :
  Calls Tryz.prog 109 #[.int .u32 a] w fun e w' => e = .returned (.bool (finP a)) ∧ w' = w := by
 have K : finP a = (cls a != 4 && cls a != 5) := by
  unfold finP cls
  rw [Bool.eq_iff_iff]
  split
  ·split <;> simp <;> omega
  ·split
   ·split <;> simp <;> omega
   ·simp; omega
 rw [K]
 obtain ⟨c, hc⟩ : ∃ c, cls a = c := ⟨_, rfl⟩
 have KC := class_any a h0 h1
 rw [hc] at KC ⊢
 have HK : Hid (∀ w, Calls Tryz.prog 132 #[.int .u32 a] w fun e w' => e = .returned (.int .i64 c) ∧ w' = w) := KC
 clear KC hc K
 go_enter Tryz.func109, Tryz.ntmps109
 go_wp2_with (go_at_call 132; refine (HK.out _).mono ?_; rintro e w1 ⟨rfl, rfl⟩)
 all_goals (go_ret; refine ⟨ret_bool ?_, rfl⟩; simp_all)
set_option maxHeartbeats 400000 in
theorem keyMayBe_none (s : ByteArray) (w : World) :
  Calls Tryz.prog 80 #[.string s, .pointer none] w fun e w' => e = .returned (.bool s.toList.isEmpty) ∧ w' = w := by
 go_enter Tryz.func80, Tryz.ntmps80
 go_wp2
 all_goals (go_ret; refine ⟨ret_bool ?_, rfl⟩; simp_all)
set_option maxHeartbeats 400000 in
theorem keyMayBe_some (s : ByteArray) (hs : s.size ≤ 140737488351232) (b o : Nat) (w : World) :
  Calls Tryz.prog 80 #[.string s, .pointer (some ⟨b, o, none⟩)] w fun e w' => e = .returned (.bool (s.toList.isEmpty || nameP s)) ∧ w' = w := by
 go_enter Tryz.func80, Tryz.ntmps80
 go_wp2_with (go_at_call 107; refine (isName_any _ hs _).mono ?_; rintro e w1 ⟨rfl, rfl⟩)
 all_goals (go_ret; refine ⟨ret_bool ?_, rfl⟩; simp_all)
set_option maxHeartbeats 400000 in
theorem standsWell_none (b o : Nat) (k : Int) (w : World) (h0 : w.cell? ⟨b, o, none⟩ = some (.int .i64 k)) :
  Calls Tryz.prog 82 #[.pointer (some ⟨b, o, none⟩), .pointer none] w fun e w' => e = .returned (.bool true) ∧ w' = w := by
 go_enter Tryz.func82, Tryz.ntmps82
 go_wp2
 all_goals (go_ret; refine ⟨ret_bool ?_, rfl⟩; simp_all)
set_option maxHeartbeats 400000 in
theorem standsWell_some (b o : Nat) (k : Int) (b' o' : Nat) (k' : Int) (w : World) (h0 : w.cell? ⟨b, o, none⟩ = some (.int .i64 k)) (h1 : w.cell? ⟨b', o', none⟩ = some (.int .i64 k')) :
  Calls Tryz.prog 82 #[.pointer (some ⟨b, o, none⟩), .pointer (some ⟨b', o', none⟩)] w fun e w' => e = .returned (.bool (k != 6 || k' == 6)) ∧ w' = w := by
 go_enter Tryz.func82, Tryz.ntmps82
 go_wp2
 all_goals (go_ret; refine ⟨ret_bool ?_, rfl⟩; simp_all)
set_option maxRecDepth 100000 in
set_option maxHeartbeats 1000000 in
theorem bindsWell_any (p : Option Addr) (c : Nat) (l : List Nd) (hl : l.length ≤ 99000) (w : World) (hk : Kids w anyH (.slice p l.length c) l) :
  Calls Tryz.prog 111 #[.slice p l.length c] w fun e w' => e = .returned (.bool (bindsP l)) ∧ Below w.heap.size w w' := by
 by_cases h2 : l.length = 2
 ·obtain ⟨p', c', hv, -, hk⟩ := hk
  match l, h2, hk with
  | [v, r], _, hk0 =>
   rcases hk0 with hka | ⟨b, o, hp, hka⟩
   ·cases hka
   simp only [Value.slice.injEq] at hv
   obtain ⟨rfl, -, -⟩ := hv
   subst hp
   have hk1 := KA_cons.1 hka
   have hk2 := KA_cons.1 hk1.2
   obtain ⟨v0, -, -, -, v4, -, -⟩ := hk1.1
   obtain ⟨r0, -, -, -, r4, -, -⟩ := hk2.1
   clear hka hk1 hk2
   obtain ⟨vk, vn, vx, vi, vy, vl, va⟩ := v
   obtain ⟨rk, rn, rx, ri, ry, rl, ra⟩ := r
   show Calls Tryz.prog 111 #[.slice (some ⟨b, o, none⟩) 2 c] w fun e w' => e = .returned (.bool (vk != 6 && (rk == 6 || rk == 1) && vy.toList.isEmpty && ry.toList.isEmpty)) ∧ Below w.heap.size w w'
   simp only at v0 v4 r0 r4
   go_enter Tryz.func111, Tryz.ntmps111
   go_wp2
   go_quiet (fail)
   go_wp2
   all_goals (go_ret; refine ⟨ret_bool ?_, bel_dn _ _⟩; simp_all)
 ·have e : bindsP l = false := by
   unfold bindsP
   split
   ·simp at h2
   ·rfl
  rw [e]
  obtain ⟨n, hn⟩ : ∃ n, l.length = n := ⟨_, rfl⟩
  rw [hn] at hl h2 ⊢
  have z : ¬ ((n : Int) = 2) := by omega
  clear hk e hn
  go_enter Tryz.func111, Tryz.ntmps111
  go_wp2
  go_ret
  exact ⟨rfl, bel0 w⟩
def keyP (y : ByteArray) (u : Option Nd) : Bool := match u with | none => y.toList.isEmpty | some _ => y.toList.isEmpty || nameP y
def standsP (k : Int) (u : Option Nd) : Bool := match u with | none => true | some a => k != 6 || a.kind == 6
def judgeP (t : Nd) (u : Option Nd) : Int :=
 if 64 < t.name.size ∨ 64 < t.key.size then 2 else if keyP t.key u && kindP t && standsP t.kind u then 0 else 70
set_option maxRecDepth 100000 in
set_option maxHeartbeats 4000000 in
theorem kindMayBe_any (b o : Nat) (t : Nd) (w : World) (hc : cnt t ≤ 99000) (hok : ok1 t) (hn : NodeA w anyH b o t) :
  Calls Tryz.prog 81 #[.pointer (some ⟨b, o, none⟩)] w fun e w' => e = .returned (.bool (kindP t)) ∧ Below w.heap.size w w' := by
 obtain ⟨⟨s1, s2, x0, x1⟩, -⟩ := hok
 obtain ⟨e0, e1, e2, e3, e4, e6, sv, e5, hk⟩ := hn
 have hlen : t.args.length ≤ 99000 := by have := cntL_len t.args; unfold cnt at hc; omega
 obtain ⟨p, c, rfl, hq, hk'⟩ := hk
 have HB : Hid (∀ v, Below w.heap.size w v → Calls Tryz.prog 111 #[.slice p t.args.length c] v fun e v' => e = .returned (.bool (bindsP t.args)) ∧ Below v.heap.size v v') := fun v hv => bindsWell_any p c t.args hlen v (Kids.below ⟨p, c, rfl, hq, hk'⟩ hv)
 clear hk' hq hc
 obtain ⟨k, nm, x, i, y, l, a⟩ := t
 simp only at *
 unfold kindP novP
 simp only
 clear e4 e6
 obtain ⟨np, hnp⟩ : ∃ np, nameP nm = np := ⟨_, rfl⟩
 obtain ⟨tp, htp⟩ : ∃ tp, textP nm = tp := ⟨_, rfl⟩
 obtain ⟨fp, hfp⟩ : ∃ fp, finP x = fp := ⟨_, rfl⟩
 have K1 := isName_any nm s1
 have K2 := isText_any nm s1
 have K3 := isFinite_any x x0 x1
 rw [hnp] at K1 ⊢
 rw [htp] at K2 ⊢
 rw [hfp] at K3 ⊢
 have H1 : Hid (∀ w, Calls Tryz.prog 107 #[.string nm] w fun e w' => e = .returned (.bool np) ∧ w' = w) := K1
 have H2 : Hid (∀ w, Calls Tryz.prog 110 #[.string nm] w fun e w' => e = .returned (.bool tp) ∧ w' = w) := K2
 have H3 : Hid (∀ w, Calls Tryz.prog 109 #[.int .u32 x] w fun e w' => e = .returned (.bool fp) ∧ w' = w) := K3
 clear hnp htp hfp K1 K2 K3 s1 s2 x0 x1
 by_cases k1 : k = 1
 ·subst k1
  rw [if_pos rfl]
  go_enter Tryz.func81, Tryz.ntmps81
  go_wp2_with (first | (go_at_call 107; refine (H1.out _).mono ?_; rintro e w1 ⟨rfl, rfl⟩) | (go_at_call 108; refine (hasNoValue_any b o x i _ e2 e3).mono ?_; rintro e w1 ⟨rfl, rfl⟩))
  all_goals (go_ret; refine ⟨ret_bool ?_, bel0 _⟩; simp_all)
 rw [if_neg k1]
 by_cases k2 : k = 2
 ·subst k2
  rw [if_pos rfl]
  go_enter Tryz.func81, Tryz.ntmps81
  go_wp2_with (first | (go_at_call 109; refine (H3.out _).mono ?_; rintro e w1 ⟨rfl, rfl⟩))
  all_goals (go_ret; refine ⟨ret_bool ?_, bel0 _⟩; simp_all)
 rw [if_neg k2]
 by_cases k3 : k = 3
 ·subst k3
  rw [if_pos rfl]
  go_enter Tryz.func81, Tryz.ntmps81
  go_wp2
  all_goals (go_ret; refine ⟨ret_bool ?_, bel0 _⟩; first | (simp_all; done) | (simp_all; intros; omega))
 rw [if_neg k3]
 by_cases k4 : k = 4
 ·subst k4
  rw [if_pos rfl]
  go_enter Tryz.func81, Tryz.ntmps81
  go_wp2_with (first | (go_at_call 107; refine (H1.out _).mono ?_; rintro e w1 ⟨rfl, rfl⟩) | (go_at_call 108; refine (hasNoValue_any b o x i _ e2 e3).mono ?_; rintro e w1 ⟨rfl, rfl⟩))
  all_goals (go_ret; refine ⟨ret_bool ?_, bel0 _⟩; simp_all)
 rw [if_neg k4]
 by_cases k5 : k = 5
 ·subst k5
  rw [if_pos rfl]
  go_enter Tryz.func81, Tryz.ntmps81
  go_wp2_with (first | (go_at_call 110; refine (H2.out _).mono ?_; rintro e w1 ⟨rfl, rfl⟩) | (go_at_call 108; refine (hasNoValue_any b o x i _ e2 e3).mono ?_; rintro e w1 ⟨rfl, rfl⟩))
  all_goals (go_ret; refine ⟨ret_bool ?_, bel0 _⟩; simp_all)
 rw [if_neg k5]
 by_cases k6 : k = 6
 ·subst k6
  rw [if_pos rfl]
  go_enter Tryz.func81, Tryz.ntmps81
  go_wp2_with (first | (go_at_call 107; refine (H1.out _).mono ?_; rintro e w1 ⟨rfl, rfl⟩) | (go_at_call 108; refine (hasNoValue_any b o x i _ e2 e3).mono ?_; rintro e w1 ⟨rfl, rfl⟩) | (go_at_call 111; refine (HB.out _ (bel0 _)).mono ?_; rintro e w1 ⟨rfl, hb1⟩))
  all_goals (go_ret; refine ⟨ret_bool ?_, (by first | exact hb1 | exact bel0 _)⟩; simp_all)
 rw [if_neg k6]
 go_enter Tryz.func81, Tryz.ntmps81
 go_wp2
 go_ret
 exact ⟨rfl, bel0 _⟩
end Go.Proofs.YtmiidhgbdecdkaaGreat
namespace Go.Proofs.YtmiidhgbdecdkaaGreat
open Go.RowKit
set_option linter.unusedVariables false
set_option linter.unusedSimpArgs false
theorem walk_top {σ : Type} {k : Nat} {cap : Array Value} {g : σ → Nd → Int → Option Nd → Bool × σ} {I : Nat → σ → World → Prop} (W : World) (t : Nd) (b o : Nat) (hc : cnt t ≤ 99000) (hok : ok1 t) (hn : NodeA W anyH b o t) (s : σ)
  (H : Looks k cap g (RT W.heap.size) (LT W) I) (v : World) (hI : I (cnt t) s v) (hv : Below W.heap.size W v) :
  Calls Tryz.prog 39 #[.pointer (some ⟨b, o, none⟩), .agg #[.int .i64 1, .pointer none], .func (.func k) #[] cap] v fun e v' => e = .returned (.bool (wk g t 1 none s).1) ∧ I 0 (wk g t 1 none s).2 v' ∧ Below W.heap.size W v' :=
 (walk_any H (dep t) t 0 s v b o 1 none none (Nat.le_refl _) hc (by decide) (by have := dep_cnt t; omega) (by rw [Nat.zero_add]; exact hI) ⟨hn, ⟨hok, hc⟩, hv⟩ (.inl ⟨rfl, rfl⟩)).mono fun e v' ⟨he, hi, hr⟩ => ⟨he, hi, hv.trans (hr.1 hv.size)⟩
def ICell (C : Nat) (t : TypeId) (m : Nat) (s : Int) (w : World) : Prop := w.heap[C]? = some (.cells #[.int .i64 s] t)
theorem ICell.below {C : Nat} {t : TypeId} {m : Nat} {s : Int} {w w' : World} (h : ICell C t m s w) (k : Below w.heap.size w w') : ICell C t m s w' := by
 unfold ICell at *
 rw [k.block C (hlt h)]; exact h
def gMeas : Int → Nd → Int → Option Nd → Bool × Int := fun s _ d _ => (decide (d ≤ 64), s + 1)
set_option maxHeartbeats 400000 in
theorem measure1_any (W : World) (C : Nat) (hC : W.heap.size ≤ C) (m : Nat) (s : Int) (w : World) (b o : Nat) (t : Nd) (d : Int) (av : Option Addr) (u : Option Nd) (hI : ICount C (m + 1) s w) :
  Calls Tryz.prog 79 (#[.pointer (some ⟨b, o, none⟩), .agg #[.int .i64 d, .pointer av]] ++ #[.pointer (some ⟨C, 0, none⟩)]) w fun e w' => e = .returned (.bool (gMeas s t d u).1) ∧ ICount C m (gMeas s t d u).2 w' ∧ RT W.heap.size w w' := by
 obtain ⟨h0, h1, h2⟩ := hI
 have g1 := heap_old w (.cells #[.int .i64 d, .pointer av] 75) h2
 obtain ⟨c1, f1⟩ := one_cell g1
 have hne : w.heap.size ≠ C := by have := hlt h2; omega
 show Calls Tryz.prog 79 #[.pointer (some ⟨b, o, none⟩), .agg #[.int .i64 d, .pointer av], .pointer (some ⟨C, 0, none⟩)] w _
 have G1 : Hid ((w.alloc (.cells #[.int .i64 d, .pointer av] 75)).heap[C]? = some (.cells #[.int .i64 s] 3)) := g1
 clear g1 h2
 go_enter Tryz.func79, Tryz.ntmps79
 go_wp2
 go_ret
 refine ⟨rfl, ⟨?_, ?_, ?_⟩, (RT.below (bel_alloc w _)).trans (RT.set G1.out hC _)⟩
 ·show 0 ≤ s + 1; omega
 ·show s + 1 + m ≤ 99000; omega
 ·exact heap_set G1.out _
theorem wkL_meas (l : List Nd) : ∀ (d : Int) (u : Option Nd) (s : Int), (d - 1 + depL l ≤ 64 → wkL gMeas l d u s = (true, s + cntL l)) ∧ (d ≤ 65 → 64 < d - 1 + depL l → (wkL gMeas l d u s).1 = false) := by
 apply forest (P := fun l => ∀ (d : Int) (u : Option Nd) (s : Int), (d - 1 + depL l ≤ 64 → wkL gMeas l d u s = (true, s + cntL l)) ∧ (d ≤ 65 → 64 < d - 1 + depL l → (wkL gMeas l d u s).1 = false))
 ·intro d u s
  rw [wkL_nil, depL_nil, cntL_nil]
  refine ⟨fun _ => by simp, fun h1 h2 => ?_⟩
  omega
 ·intro t r h1 h2 d u s
  rw [wkL_cons, depL_cons, cntL_cons]
  have e1 : d - 1 + dep t ≤ 64 → wk gMeas t d u s = (true, s + cnt t) := fun h => by
   unfold dep at h
   unfold wk
   rw [show gMeas s t d u = (decide (d ≤ 64), s + 1) from rfl]
   rw [if_pos (by rw [decide_eq_true_iff]; omega), (h1 _ _ _).1 (by omega)]
   unfold cnt
   congr 1
   push_cast
   omega
  have e2 : d ≤ 65 → 64 < d - 1 + dep t → (wk gMeas t d u s).1 = false := fun h h' => by
   unfold dep at h'
   unfold wk
   rw [show gMeas s t d u = (decide (d ≤ 64), s + 1) from rfl]
   by_cases c : d ≤ 64
   ·rw [if_pos (by rw [decide_eq_true_iff]; exact c)]
    exact (h1 _ _ _).2 (by omega) (by omega)
   ·rw [if_neg (by rw [decide_eq_true_iff]; exact c)]
  constructor
  ·intro h
   rw [e1 (by omega), if_pos rfl, (h2 _ _ _).1 (by omega)]
   congr 1
   push_cast
   omega
  ·intro h h'
   by_cases c : 64 < d - 1 + dep t
   ·rw [e2 h c, if_neg (by decide)]
   ·rw [e1 (by omega), if_pos rfl]
    exact (h2 _ _ _).2 h (by omega)
theorem wk_meas (t : Nd) (u : Option Nd) : (dep t ≤ 64 → wk gMeas t 1 u 0 = (true, (cnt t : Int))) ∧ (64 < dep t → (wk gMeas t 1 u 0).1 = false) := by
 rw [← wkL_one]
 have := wkL_meas [t] 1 u 0
 rw [depL_one, cntL_one] at this
 exact ⟨fun h => by rw [this.1 (by omega)]; simp, fun h => this.2 (by decide) (by omega)⟩
def measP (t : Nd) : Int := if 64 < dep t then 81 else if 4096 < cnt t then 82 else 0
set_option maxHeartbeats 1000000 in
theorem measure_any (t : Nd) (b o : Nat) (w : World) (hc : cnt t ≤ 99000) (hok : ok1 t) (hn : NodeA w anyH b o t) :
  Calls Tryz.prog 38 #[.pointer (some ⟨b, o, none⟩)] w fun e w' => e = .returned (.int .i64 (measP t)) ∧ Below w.heap.size w w' := by
 have HC : Hid (∀ v : World, ICount w.heap.size (cnt t) 0 v → Below w.heap.size w v → Calls Tryz.prog 39 #[.pointer (some ⟨b, o, none⟩), .agg #[.int .i64 1, .pointer none], .func (.func 79) #[] #[.pointer (some ⟨w.heap.size, 0, none⟩)]] v fun e v' => e = .returned (.bool (wk gMeas t 1 none 0).1) ∧ v'.cell? ⟨w.heap.size, 0, none⟩ = some (.int .i64 (wk gMeas t 1 none 0).2) ∧ Below w.heap.size w v') := fun v hI hv => by
  have := walk_top w t b o hc hok hn 0 (looks_of w (enters_of Tryz.func79 (by kernel_rfl) rfl) (fun m s w w' h k => h.below k) (fun m m' s w hm h => ⟨h.1, by have := h.2.1; omega, h.2.2⟩) (fun m s v b o t d av u hI _ _ => measure1_any w w.heap.size (Nat.le_refl _) m s v b o t d av u hI)) v hI hv
  exact this.mono fun e v' ⟨he, hi, hr⟩ => ⟨he, (one_cell hi.2.2).1, hr⟩
 obtain ⟨r, s, hrs⟩ : ∃ r s, wk gMeas t 1 none 0 = (r, s) := ⟨_, _, rfl⟩
 have hM : measP t = if r then (if 4096 < s then 82 else 0) else 81 := by
  unfold measP
  by_cases c : 64 < dep t
  ·have := (wk_meas t none).2 c
   rw [hrs] at this
   have : r = false := this
   rw [if_pos c, this]; rfl
  ·have := (wk_meas t none).1 (by omega)
   rw [hrs] at this
   cases this
   rw [if_neg c, if_pos rfl]
   by_cases c2 : 4096 < cnt t
   ·rw [if_pos c2, if_pos (by omega)]
   ·rw [if_neg c2, if_neg (by omega)]
 rw [hrs] at HC
 rw [hM]
 clear hrs hM hn hok
 go_enter Tryz.func38, Tryz.ntmps38
 go_wp2_with (first
  | (go_at_call 40; refine (top_any _).mono ?_; rintro e w2 ⟨rfl, hb2⟩; have hI2 : ICount w.heap.size (cnt t) 0 w2 := ICount.below ⟨by omega, by omega, box_heap _ _⟩ hb2; have hB2 := bel (bel_alloc w _) hb2)
  | (go_at_call 39; (with_reducible refine (HC.out _ hI2 hB2).mono ?_); rintro e w3 ⟨rfl, hc3, hb3⟩))
 all_goals (go_ret; refine ⟨ret_int ?_, hb3⟩; simp_all)
def gCheck : Int → Nd → Int → Option Nd → Bool × Int := fun _ t _ u => (judgeP t u == 0, judgeP t u)
def checkP (t : Nd) : Int := if measP t = 0 then (wk gCheck t 1 none 0).2 else measP t
set_option maxRecDepth 100000 in
set_option maxHeartbeats 2000000 in
theorem judge_none (b o : Nat) (t : Nd) (w : World) (hc : cnt t ≤ 99000) (hok : ok1 t) (hn : NodeA w anyH b o t) :
  Calls Tryz.prog 42 #[.pointer (some ⟨b, o, none⟩), .pointer none] w fun e w' => e = .returned (.int .i64 (judgeP t none)) ∧ Below w.heap.size w w' := by
 have HK : Hid (∀ v, Below w.heap.size w v → Calls Tryz.prog 81 #[.pointer (some ⟨b, o, none⟩)] v fun e v' => e = .returned (.bool (kindP t)) ∧ Below v.heap.size v v' ∧ v'.cell? ⟨b, o, none⟩ = some (.int .i64 t.kind)) := fun v hv =>
  (kindMayBe_any b o t v hc hok (hn.below hv)).mono fun e v' ⟨he, hb⟩ => ⟨he, hb, ((hn.below hv).below hb).1⟩
 obtain ⟨e0, e1, -, -, e4, -, -⟩ := hn
 obtain ⟨⟨s1, s2, -, -⟩, -⟩ := hok
 clear hc
 unfold judgeP keyP standsP
 simp only
 obtain ⟨kp, hkp⟩ : ∃ kp, kindP t = kp := ⟨_, rfl⟩
 rw [hkp] at HK ⊢
 clear hkp
 obtain ⟨k, nm, x, i, y, l, a⟩ := t
 simp only at *
 by_cases z1 : 64 < nm.size
 ·rw [if_pos (.inl z1)]
  go_enter Tryz.func42, Tryz.ntmps42
  go_wp2
  go_ret
  exact ⟨rfl, bel0 _⟩
 by_cases z2 : 64 < y.size
 ·rw [if_pos (.inr z2)]
  go_enter Tryz.func42, Tryz.ntmps42
  go_wp2
  go_ret
  exact ⟨rfl, bel0 _⟩
 rw [if_neg (by omega)]
 go_enter Tryz.func42, Tryz.ntmps42
 go_wp2_with (first
  | (go_at_call 80; refine (keyMayBe_none _ _).mono ?_; rintro e w1 ⟨rfl, rfl⟩)
  | (go_at_call 81; refine (HK.out _ (bel0 _)).mono ?_; rintro e w2 ⟨rfl, hb2, c2⟩)
  | (go_at_call 82; refine (standsWell_none _ _ _ _ c2).mono ?_; rintro e w3 ⟨rfl, rfl⟩))
 all_goals (go_ret; refine ⟨ret_int ?_, (by first | exact hb2 | exact bel0 _)⟩; simp_all)
set_option maxRecDepth 100000 in
set_option maxHeartbeats 2000000 in
theorem judge_some (b o : Nat) (t : Nd) (b' o' : Nat) (u : Nd) (w : World) (hc : cnt t ≤ 99000) (hok : ok1 t) (hn : NodeA w anyH b o t) (hu : NodeA w anyH b' o' u) :
  Calls Tryz.prog 42 #[.pointer (some ⟨b, o, none⟩), .pointer (some ⟨b', o', none⟩)] w fun e w' => e = .returned (.int .i64 (judgeP t (some u))) ∧ Below w.heap.size w w' := by
 have HK : Hid (∀ v, Below w.heap.size w v → Calls Tryz.prog 81 #[.pointer (some ⟨b, o, none⟩)] v fun e v' => e = .returned (.bool (kindP t)) ∧ Below v.heap.size v v' ∧ v'.cell? ⟨b, o, none⟩ = some (.int .i64 t.kind) ∧ v'.cell? ⟨b', o', none⟩ = some (.int .i64 u.kind)) := fun v hv =>
  (kindMayBe_any b o t v hc hok (hn.below hv)).mono fun e v' ⟨he, hb⟩ => ⟨he, hb, ((hn.below hv).below hb).1, ((hu.below hv).below hb).1⟩
 obtain ⟨e0, e1, -, -, e4, -, -⟩ := hn
 have u0 := hu.1
 obtain ⟨⟨s1, s2, -, -⟩, -⟩ := hok
 clear hc hu
 unfold judgeP keyP standsP
 simp only
 obtain ⟨kp, hkp⟩ : ∃ kp, kindP t = kp := ⟨_, rfl⟩
 rw [hkp] at HK ⊢
 clear hkp
 obtain ⟨k, nm, x, i, y, l, a⟩ := t
 obtain ⟨k', nm', x', i', y', l', a'⟩ := u
 simp only at *
 by_cases z1 : 64 < nm.size
 ·rw [if_pos (.inl z1)]
  go_enter Tryz.func42, Tryz.ntmps42
  go_wp2
  go_ret
  exact ⟨rfl, bel0 _⟩
 by_cases z2 : 64 < y.size
 ·rw [if_pos (.inr z2)]
  go_enter Tryz.func42, Tryz.ntmps42
  go_wp2
  go_ret
  exact ⟨rfl, bel0 _⟩
 rw [if_neg (by omega)]
 have KY := keyMayBe_some y s2 b' o'
 obtain ⟨kq, hkq⟩ : ∃ kq, (y.toList.isEmpty || nameP y) = kq := ⟨_, rfl⟩
 rw [hkq] at KY ⊢
 have HY : Hid (∀ w, Calls Tryz.prog 80 #[.string y, .pointer (some ⟨b', o', none⟩)] w fun e w' => e = .returned (.bool kq) ∧ w' = w) := KY
 clear KY hkq
 cases kq <;> cases kp
 all_goals (
  go_enter Tryz.func42, Tryz.ntmps42
  go_wp2_with (first
   | (go_at_call 80; refine (HY.out _).mono ?_; rintro e w1 ⟨rfl, rfl⟩)
   | (go_at_call 81; refine (HK.out _ (bel0 _)).mono ?_; rintro e w2 ⟨rfl, hb2, c2, c3⟩)
   | (go_at_call 82; refine (standsWell_some _ _ _ _ _ _ _ c2 c3).mono ?_; rintro e w3 ⟨rfl, rfl⟩))
  all_goals (go_ret; refine ⟨ret_int ?_, (by first | exact hb2 | exact bel0 _)⟩; simp_all))
set_option maxHeartbeats 1000000 in
theorem check1_any (W : World) (C : Nat) (hC : W.heap.size ≤ C) (m : Nat) (s : Int) (w : World) (b o : Nat) (t : Nd) (d : Int) (av : Option Addr) (u : Option Nd) (hI : ICell C 32 (m + 1) s w) (hL : LT W w b o t) (hA : Ab (LT W) w av u) :
  Calls Tryz.prog 41 (#[.pointer (some ⟨b, o, none⟩), .agg #[.int .i64 d, .pointer av]] ++ #[.pointer (some ⟨C, 0, none⟩)]) w fun e w' => e = .returned (.bool (gCheck s t d u).1) ∧ ICell C 32 m (gCheck s t d u).2 w' ∧ RT W.heap.size w w' := by
 unfold ICell at hI
 have g1 := heap_old w (.cells #[.int .i64 d, .pointer av] 75) hI
 have HJ : Hid (Calls Tryz.prog 42 #[.pointer (some ⟨b, o, none⟩), .pointer av] (w.alloc (.cells #[.int .i64 d, .pointer av] 75)) fun e w' => e = .returned (.int .i64 (judgeP t u)) ∧ RT W.heap.size w w' ∧ w'.heap[C]? = some (.cells #[.int .i64 s] 32)) := by
  have hb := bel_alloc w (.cells #[.int .i64 d, .pointer av] 75)
  rcases hA with ⟨rfl, rfl⟩ | ⟨b', o', u', rfl, rfl, hu⟩
  ·exact (judge_none b o t _ hL.2.1.2 hL.2.1.1 (hL.node.below hb)).mono fun e w' ⟨he, h⟩ => ⟨he, RT.below (bel hb h), by rw [h.block C (hlt g1)]; exact g1⟩
  ·exact (judge_some b o t b' o' u' _ hL.2.1.2 hL.2.1.1 (hL.node.below hb) (hu.node.below hb)).mono fun e w' ⟨he, h⟩ => ⟨he, RT.below (bel hb h), by rw [h.block C (hlt g1)]; exact g1⟩
 show Calls Tryz.prog 41 #[.pointer (some ⟨b, o, none⟩), .agg #[.int .i64 d, .pointer av], .pointer (some ⟨C, 0, none⟩)] w _
 unfold gCheck
 obtain ⟨j, hj⟩ : ∃ j, judgeP t u = j := ⟨_, rfl⟩
 simp only
 rw [hj] at HJ ⊢
 clear g1 hI hL hA hj
 go_enter Tryz.func41, Tryz.ntmps41
 go_wp2_with (go_at_call 42; (with_reducible refine HJ.out.mono ?_); rintro e w1 ⟨rfl, hr1, hx1⟩; obtain ⟨c1, f1⟩ := one_cell hx1; have HX : Hid (w1.heap[C]? = some (.cells #[.int .i64 s] 32)) := hx1; clear hx1)
 go_ret
 exact ⟨rfl, heap_set HX.out _, hr1.trans (RT.set HX.out hC _)⟩
set_option maxHeartbeats 1000000 in
theorem check_any (t : Nd) (sv : Value) (w : World) (hc : cnt t ≤ 99000) (hok : ok1 t) (hk : Kids w anyH sv t.args) :
  Calls Tryz.prog 18 #[nv t sv] w fun e w' => e = .returned (.int .i64 (checkP t)) ∧ Below w.heap.size w w' := by
 have hn := box_node w t sv hk
 have hbW := bel_alloc w (.cells #[.int .i64 t.kind, .string t.name, .int .u32 t.num, .int .i64 t.int_, .string t.key, sv, .int .i64 t.at_] 29)
 obtain ⟨W, hW⟩ : ∃ W, w.alloc (.cells #[.int .i64 t.kind, .string t.name, .int .u32 t.num, .int .i64 t.int_, .string t.key, sv, .int .i64 t.at_] 29) = W := ⟨_, rfl⟩
 have hs : W.heap.size = w.heap.size + 1 := by rw [← hW]; simp
 have HM : Hid (Calls Tryz.prog 38 #[.pointer (some ⟨w.heap.size, 0, none⟩)] (w.alloc (.cells #[.int .i64 t.kind, .string t.name, .int .u32 t.num, .int .i64 t.int_, .string t.key, sv, .int .i64 t.at_] 29)) fun e v => e = .returned (.int .i64 (measP t)) ∧ NodeA v anyH w.heap.size 0 t ∧ Below w.heap.size w v) :=
  (measure_any t w.heap.size 0 _ hc hok hn).mono fun e v ⟨he, hb⟩ => ⟨he, hn.below hb, bel hbW hb⟩
 have HC : Hid (∀ V v : World, NodeA V anyH w.heap.size 0 t → ICell V.heap.size 32 (cnt t) 0 v → Below V.heap.size V v → Calls Tryz.prog 39 #[.pointer (some ⟨w.heap.size, 0, none⟩), .agg #[.int .i64 1, .pointer none], .func (.func 41) #[] #[.pointer (some ⟨V.heap.size, 0, none⟩)]] v fun e v' => e = .returned (.bool (wk gCheck t 1 none 0).1) ∧ v'.cell? ⟨V.heap.size, 0, none⟩ = some (.int .i64 (wk gCheck t 1 none 0).2) ∧ Below V.heap.size V v') := fun V v hn hI hv => by
  have := walk_top V t w.heap.size 0 hc hok hn 0 (looks_of V (enters_of Tryz.func41 (by kernel_rfl) rfl) (fun m s w w' h k => h.below k) (fun m m' s w hm h => h) (fun m s v b o t d av u hI hL hA => check1_any V V.heap.size (Nat.le_refl _) m s v b o t d av u hI hL hA)) v hI hv
  exact this.mono fun e v' ⟨he, hi, hr⟩ => ⟨he, (one_cell hi).1, hr⟩
 unfold checkP
 obtain ⟨mp, hmp⟩ : ∃ mp, measP t = mp := ⟨_, rfl⟩
 obtain ⟨r, q, hq⟩ : ∃ r q, wk gCheck t 1 none 0 = (r, q) := ⟨_, _, rfl⟩
 rw [hmp] at HM ⊢
 rw [hq] at HC ⊢
 clear hn hbW hW hs hmp hq hk hok
 unfold nv
 by_cases h0 : mp = 0
 ·subst h0
  rw [if_pos rfl]
  go_enter Tryz.func18, Tryz.ntmps18
  go_wp2_with (first
   | (go_at_call 38; (with_reducible refine HM.out.mono ?_); rintro e w1 ⟨rfl, hn1, hb1⟩; have HN1 : Hid (NodeA w1 anyH w.heap.size 0 t) := hn1; clear hn1)
   | (go_at_call 40; refine (top_any _).mono ?_; rintro e w2 ⟨rfl, hb2⟩; have hI2 : ICell w1.heap.size 32 (cnt t) 0 w2 := ICell.below (m := cnt t) (box_heap _ _) hb2; have hB2 := bel (bel_alloc w1 _) hb2)
   | (go_at_call 39; (with_reducible refine (HC.out w1 _ HN1.out hI2 hB2).mono ?_); rintro e w3 ⟨rfl, hc3, hb3⟩))
  go_ret
  exact ⟨rfl, bel hb1 hb3⟩
 ·rw [if_neg h0]
  have z : (mp == 0) = false := by simpa using h0
  go_enter Tryz.func18, Tryz.ntmps18
  go_wp2_with (go_at_call 38; (with_reducible refine HM.out.mono ?_); rintro e w1 ⟨rfl, hn1, hb1⟩)
  go_ret
  exact ⟨rfl, hb1⟩
end Go.Proofs.YtmiidhgbdecdkaaGreat
namespace Go.Proofs.YtmiidhgbdecdkaaGreat
open Go.RowKit
set_option linter.unusedVariables false
set_option linter.unusedSimpArgs false
def szA (e : Env) (t : Nd) : Int × Int := ((min (cnt (wrN e t)) 4097 : Nat), (dep (wrN e t) : Nat))
def SLetA (w : World) (b o : Nat) (x : ByteArray × Nd) (z : Int × Int) : Prop :=
 w.cell? ⟨b, o, none⟩ = some (.string x.1) ∧ (∃ bi oi, w.cell? ⟨b, o + 1, none⟩ = some (.pointer (some ⟨bi, oi, none⟩)) ∧ NodeA w anyH bi oi x.2) ∧ w.cell? ⟨b, o + 2, none⟩ = some (.int .i64 z.1) ∧ w.cell? ⟨b, o + 3, none⟩ = some (.int .i64 z.2)
def ScopeA (w : World) (p : Option Addr) (l : List (ByteArray × Nd)) : Prop := ∀ i (h : i < l.length), ∃ b, p = some ⟨b, 0, none⟩ ∧ SLetA w b (i * 4) l[i] (szA (envA (l.take i)) l[i].2)
theorem SLetA.below {w w' : World} {b o : Nat} {x : ByteArray × Nd} {z : Int × Int} (h : SLetA w b o x z) (k : Below w.heap.size w w') : SLetA w' b o x z := by
 obtain ⟨h0, ⟨bi, oi, h1, hn⟩, h2, h3⟩ := h
 exact ⟨(k.cell (mcell_lt h0)).trans h0, ⟨bi, oi, (k.cell (mcell_lt h1)).trans h1, hn.below k⟩, (k.cell (mcell_lt h2)).trans h2, (k.cell (mcell_lt h3)).trans h3⟩
theorem ScopeA.below {w w' : World} {p : Option Addr} {l : List (ByteArray × Nd)} (h : ScopeA w p l) (k : Below w.heap.size w w') : ScopeA w' p l := fun i hi => by
 obtain ⟨b, h1, h2⟩ := h i hi
 exact ⟨b, h1, h2.below k⟩
theorem ScopeA.take {w : World} {p : Option Addr} {l : List (ByteArray × Nd)} (h : ScopeA w p l) (k : Nat) : ScopeA w p (l.take k) := fun i hi => by
 have hi' : i < l.length := by rw [List.length_take] at hi; omega
 obtain ⟨b, h1, h2⟩ := h i hi'
 refine ⟨b, h1, ?_⟩
 rw [List.getElem_take, List.take_take, show min i k = i from by rw [List.length_take] at hi; omega]
 exact h2
def mntP (l : List (ByteArray × Nd)) (t : Nd) : Option Nat := if t.kind = 4 then meantP l t.name l.length else none
theorem mntP_lt {l : List (ByteArray × Nd)} {t : Nd} {i : Nat} (h : mntP l t = some i) : i < l.length := by
 unfold mntP at h
 split at h
 ·exact meantP_lt h
 ·cases h
set_option maxRecDepth 100000 in
set_option maxHeartbeats 1000000 in
theorem smeant_any (l : List (ByteArray × Nd)) (p : Option Addr) (c b o : Nat) (t : Nd) (w : World) (hl : l.length ≤ 40000) (h : ScopeA w p l) (hn : NodeA w anyH b o t) :
  Calls Tryz.prog 83 #[.slice p l.length c, .pointer (some ⟨b, o, none⟩)] w fun e w' => e = .returned (match mntP l t with | some i => .tuple #[.int .i64 i, .bool true] | none => .tuple #[.int .i64 0, .bool false]) ∧ Below w.heap.size w w' := by
 obtain ⟨n, hnn⟩ : ∃ n, l.length = n := ⟨_, rfl⟩
 have HN : Hid (l.length = n) := hnn
 have HL : Hid (ScopeA w p l) := h
 obtain ⟨D, hD⟩ : ∃ D, (match mntP l t with | some i => Value.tuple #[.int .i64 i, .bool true] | none => Value.tuple #[.int .i64 0, .bool false]) = D := ⟨_, rfl⟩
 have HD : Hid ((match mntP l t with | some i => Value.tuple #[.int .i64 i, .bool true] | none => Value.tuple #[.int .i64 0, .bool false]) = D) := hD
 rw [hD]
 rw [hnn] at hl ⊢
 obtain ⟨e0, e1, -⟩ := hn
 have hw0 : IntKind.i64.wrap ((n : Int) - 1) = (n : Int) - 1 := by rw [IntKind.wrap_i64]; omega
 clear hnn h hD
 by_cases hk4 : t.kind = 4
 ·have HF0 : Hid (∀ (i : Option Nat), meantP l t.name n = i → (match i with | some i => Value.tuple #[.int .i64 i, .bool true] | none => Value.tuple #[.int .i64 0, .bool false]) = D) := fun i hi => by
   rw [← HD.out]
   unfold mntP
   rw [if_pos hk4, HN.out, hi]
  obtain ⟨nm, hnm⟩ : ∃ nm, t.name = nm := ⟨_, rfl⟩
  rw [hk4] at e0
  rw [hnm] at e1 HF0
  clear hk4 HD hnm
  go_enter Tryz.func83, Tryz.ntmps83
  go_wp2
  go_loopw [6] (fun iv wr => Below w.heap.size w wr ∧ ∃ j : Nat, j ≤ n ∧ iv = .int .i64 ((j : Int) - 1) ∧ Hid (meantP l nm n = meantP l nm j)) (fun iv _ => (intOf iv + 1).toNat)
  case atStart => exact ⟨Below.refl _ _, n, Nat.le_refl _, rfl, rfl⟩
  case round =>
   obtain ⟨hb, j, hj, rfl, HJ⟩ := hrel
   clear hw0
   have HB : Hid (Below w.heap.size w wr) := hb
   by_cases h0 : j = 0
   ·subst h0
    have HF : Hid (Value.tuple #[.int .i64 0, .bool false] = D) := HF0.out none (by rw [HJ.out]; rfl)
    clear HJ
    go_wp2
    refine bodyPost_ret (by simp [results, Tryz.results83, go_sem, *]; try rfl) rfl ?_
    exact ⟨by rw [← HF.out], HB.out⟩
   ·obtain ⟨i, rfl⟩ : ∃ i, j = i + 1 := ⟨j - 1, by omega⟩
    have e1' : ((i + 1 : Nat) : Int) - 1 = (i : Int) := by omega
    rw [e1']
    have hll : i < l.length := by rw [HN.out]; omega
    obtain ⟨bs, rfl, hla⟩ := (HL.out.below hb) i hll
    obtain ⟨x0, -⟩ := hla
    have x1 := (hb.cell (mcell_lt e1)).trans e1
    have k0 : (0 : Int) ≤ (i : Int) := by omega
    have k1 : (i : Int) < (n : Int) := by omega
    have hw1 : IntKind.i64.wrap ((i : Int) - 1) = (i : Int) - 1 := by rw [IntKind.wrap_i64]; omega
    obtain ⟨Y, hY⟩ : ∃ Y, l[i].1 = Y := ⟨_, rfl⟩
    have HNO : Hid (sameB Y nm = false → meantP l nm n = meantP l nm i) := fun h => by rw [HJ.out, meantP_no hll (by rw [hY]; exact h)]
    have HYS : Hid (sameB Y nm = true → Value.tuple #[.int .i64 i, .bool true] = D) := fun h => HF0.out (some i) (by rw [HJ.out, meantP_yes hll (by rw [hY]; exact h)])
    rw [hY] at x0
    unfold sameB at HNO HYS
    clear hY HJ HF0 hb e1 e0
    cases hsm : (Y.toList == nm.toList)
    ·have HN2 : Hid (meantP l nm n = meantP l nm i) := HNO.out hsm
     clear HNO HYS
     go_wp2
     go_quiet (fail)
     go_wp2
     go_roundw
     case rel => exact ⟨bel HB.out (bel_dn _ _), i, by omega, rfl, HN2.out⟩
     case measure => simp [intOf]
    ·have HF : Hid (Value.tuple #[.int .i64 i, .bool true] = D) := HYS.out hsm
     clear HNO HYS
     go_wp2
     go_quiet (fail)
     go_wp2
     refine bodyPost_ret (by simp [results, Tryz.results83, go_sem, *]; try rfl) rfl ?_
     exact ⟨by rw [← HF.out], bel HB.out (bel_dn _ _)⟩
 ·have HF : Hid (Value.tuple #[.int .i64 0, .bool false] = D) := by
   show _ = D
   rw [← HD.out]
   unfold mntP
   rw [if_neg hk4]
  have hk5 : (t.kind == 4) = false := by simpa using hk4
  clear HD hw0
  go_enter Tryz.func83, Tryz.ntmps83
  go_wp2
  refine bodyPost_ret (by simp [results, Tryz.results83, go_sem, *]; try rfl) rfl ?_
  exact ⟨by rw [← HF.out], Below.refl _ _⟩
end Go.Proofs.YtmiidhgbdecdkaaGreat
