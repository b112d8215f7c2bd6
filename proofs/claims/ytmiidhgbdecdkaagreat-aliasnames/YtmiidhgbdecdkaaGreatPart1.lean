import Derived.RowKit3
import Derived.WalkKit
import Derived.WalkSpells
import Derived.Test.YtmiidhgbdecdkaaGreatRows
import Derived.WalkLawsBesides
import Derived.Below
import Derived.LoopN
import Derived.OwnWalk
import Derived.Shelf.Abstract
import Derived.Deep.AppendLies
import Derived.Maps.AppendAt
import Derived.Laws.AppendOwnNone
import Derived.Deep.DeepCutAuto
import Derived.Deep.QuietTactic
import Derived.Deep.RegionHeld3
import Derived.BigQuiet
import Derived.Handy
import Derived.Shelf.Small.Strs
import Derived.Shelf.LaysM
import Derived.Shelf.Strconv.Clone
import Derived.Deep.OwnRows
import Ieee.Arith
import Derived.Laws.FloatBits
import Derived.Laws.FloatArith
namespace Go.Proofs.YtmiidhgbdecdkaaGreat
set_option linter.unusedVariables false
set_option linter.unusedSimpArgs false
abbrev Bs := List UInt8
def pLetter (c : Int) : Bool := (decide (97 ≤ c) && decide (c ≤ 122)) || c == 95
def pDigit (c : Int) : Bool := decide (48 ≤ c) && decide (c ≤ 57)
def pInText (c : Int) : Bool := (decide (32 ≤ c) && decide (c ≤ 126)) && c != 34
def nb (b : UInt8) : Int := (b.toNat : Int)
def on (p : Int → Bool) (b : UInt8) : Bool := p (nb b)
def hd : Bs → Int
 | [] => 0
 | b :: _ => nb b
def run (p : Int → Bool) : Bs → Nat
 | [] => 0
 | b :: t => if p (nb b) then run p t + 1 else 0
end Go.Proofs.YtmiidhgbdecdkaaGreat
namespace Go.Proofs.YtmiidhgbdecdkaaGreat
set_option linter.unusedVariables false
set_option linter.unusedSimpArgs false
structure Nd where
 kind : Int
 name : ByteArray
 num : Int
 int_ : Int
 key : ByteArray
 args : List Nd
 at_ : Int
def cntL : List Nd → Nat
 | [] => 0
 | ⟨_, _, _, _, _, l, _⟩ :: r => 1 + cntL l + cntL r
def cnt (t : Nd) : Nat := 1 + cntL t.args
theorem cntL_nil : cntL [] = 0 := by simp [cntL]
theorem cntL_cons (t : Nd) (r : List Nd) : cntL (t :: r) = cnt t + cntL r := by cases t; simp [cntL, cnt]
theorem forest {P : List Nd → Prop} (h0 : P []) (h1 : ∀ (t : Nd) (r : List Nd), P t.args → P r → P (t :: r)) : ∀ l, P l := by
 intro l
 induction l using cntL.induct with
 | case1 => exact h0
 | case2 k n x i y l a r hl hr => exact h1 ⟨k, n, x, i, y, l, a⟩ r hl hr
def depL : List Nd → Nat
 | [] => 0
 | ⟨_, _, _, _, _, l, _⟩ :: r => max (depL l + 1) (depL r)
def dep (t : Nd) : Nat := depL t.args + 1
theorem depL_nil : depL [] = 0 := by simp [depL]
theorem depL_cons (t : Nd) (r : List Nd) : depL (t :: r) = max (dep t) (depL r) := by cases t; simp [depL, dep]
def namesL : List Nd → List ByteArray
 | [] => []
 | ⟨k, n, _, _, _, l, _⟩ :: r => (if k == 1 then [n] else []) ++ namesL l ++ namesL r
def names (t : Nd) : List ByteArray := (if t.kind == 1 then [t.name] else []) ++ namesL t.args
def okL : List Nd → Prop
 | [] => True
 | ⟨_, n, x, _, y, l, _⟩ :: r => (n.size ≤ 140737488351232 ∧ y.size ≤ 140737488351232 ∧ 0 ≤ x ∧ x < 4294967296) ∧ okL l ∧ okL r
def ok1 (t : Nd) : Prop := (t.name.size ≤ 140737488351232 ∧ t.key.size ≤ 140737488351232 ∧ 0 ≤ t.num ∧ t.num < 4294967296) ∧ okL t.args
theorem okL_cons (t : Nd) (r : List Nd) : okL (t :: r) ↔ ok1 t ∧ okL r := by cases t; simp [okL, ok1, and_assoc]
theorem okL_nil : okL [] := by simp [okL]
theorem okL_get {l : List Nd} (h : okL l) {i : Nat} (hi : i < l.length) : ok1 l[i] := by
 induction l generalizing i with
 | nil => exact absurd hi (Nat.not_lt_zero _)
 | cons t r ih =>
  rw [okL_cons] at h
  cases i with
  | zero => exact h.1
  | succ i => exact ih h.2 (by simpa using hi)
theorem cntL_len : ∀ l : List Nd, l.length ≤ cntL l
 | [] => Nat.zero_le _
 | t :: r => by have := cntL_len r; rw [cntL_cons, List.length_cons]; unfold cnt; omega
theorem depL_cnt : ∀ l : List Nd, depL l ≤ cntL l := by
 apply forest
 ·rw [depL_nil]; exact Nat.zero_le _
 ·intro t r h1 h2
  rw [depL_cons, cntL_cons]
  unfold dep cnt
  omega
theorem cntL_append : ∀ (l m : List Nd), cntL (l ++ m) = cntL l + cntL m
 | [], m => by simp [cntL]
 | t :: r, m => by rw [List.cons_append, cntL_cons, cntL_cons, cntL_append r m]; omega
theorem depL_append : ∀ (l m : List Nd), depL (l ++ m) = max (depL l) (depL m)
 | [], m => by simp [depL]
 | t :: r, m => by rw [List.cons_append, depL_cons, depL_cons, depL_append r m]; omega
theorem ntake_succ {l : List Nd} {i : Nat} (h : i < l.length) : l.take (i + 1) = l.take i ++ [l[i]] := by
 rw [List.take_succ_eq_append_getElem h]
theorem cntL_one (t : Nd) : cntL [t] = cnt t := by rw [cntL_cons, cntL_nil]; rfl
theorem depL_one (t : Nd) : depL [t] = dep t := by rw [depL_cons, depL_nil]; omega
theorem cntL_take {l : List Nd} {i : Nat} (h : i < l.length) : cntL (l.take (i + 1)) = cntL (l.take i) + cnt l[i] := by rw [ntake_succ h, cntL_append, cntL_one]
theorem depL_take {l : List Nd} {i : Nat} (h : i < l.length) : depL (l.take (i + 1)) = max (depL (l.take i)) (dep l[i]) := by rw [ntake_succ h, depL_append, depL_one]
theorem cntL_take_le (l : List Nd) (i : Nat) : cntL (l.take i) ≤ cntL l := by
 have h := cntL_append (l.take i) (l.drop i)
 rw [List.take_append_drop] at h
 omega
theorem cnt_get {l : List Nd} {i : Nat} (h : i < l.length) : cnt l[i] ≤ cntL l := by
 have h1 := cntL_take h
 have h2 := cntL_take_le l (i + 1)
 omega
theorem depL_take_le (l : List Nd) (i : Nat) : depL (l.take i) ≤ depL l := by
 have h := depL_append (l.take i) (l.drop i)
 rw [List.take_append_drop] at h
 omega
theorem dep_get {l : List Nd} {i : Nat} (h : i < l.length) : dep l[i] ≤ depL l := by
 have h1 := depL_take h
 have h2 := depL_take_le l (i + 1)
 omega
theorem dep_cnt (t : Nd) : dep t ≤ cnt t := by
 have := depL_cnt [t]
 rwa [depL_one, cntL_one] at this
def roomL : List Nd → Int → Int
 | [], m => m
 | ⟨_, _, _, _, _, l, _⟩ :: r, m => if m < 0 then m else roomL r (roomL l (m - 1))
def room (t : Nd) (m : Int) : Int := roomL t.args (m - 1)
def wkL {σ : Type} (g : σ → Nd → Int → Option Nd → Bool × σ) : List Nd → Int → Option Nd → σ → Bool × σ
 | [], _, _, s => (true, s)
 | ⟨k, n, x, i, y, l, a⟩ :: r, d, u, s =>
  if (g s ⟨k, n, x, i, y, l, a⟩ d u).1 then
   if (wkL g l (d + 1) (some ⟨k, n, x, i, y, l, a⟩) (g s ⟨k, n, x, i, y, l, a⟩ d u).2).1 then
    wkL g r d u (wkL g l (d + 1) (some ⟨k, n, x, i, y, l, a⟩) (g s ⟨k, n, x, i, y, l, a⟩ d u).2).2
   else (false, (wkL g l (d + 1) (some ⟨k, n, x, i, y, l, a⟩) (g s ⟨k, n, x, i, y, l, a⟩ d u).2).2)
  else (false, (g s ⟨k, n, x, i, y, l, a⟩ d u).2)
def wk {σ : Type} (g : σ → Nd → Int → Option Nd → Bool × σ) (t : Nd) (d : Int) (u : Option Nd) (s : σ) : Bool × σ :=
 if (g s t d u).1 then wkL g t.args (d + 1) (some t) (g s t d u).2 else (false, (g s t d u).2)
section
variable {σ : Type} (g : σ → Nd → Int → Option Nd → Bool × σ)
theorem wkL_nil (d : Int) (u : Option Nd) (s : σ) : wkL g [] d u s = (true, s) := by simp [wkL]
theorem wkL_cons (t : Nd) (r : List Nd) (d : Int) (u : Option Nd) (s : σ) :
  wkL g (t :: r) d u s = if (wk g t d u s).1 then wkL g r d u (wk g t d u s).2 else (false, (wk g t d u s).2) := by
 cases t
 rw [wkL]
 unfold wk
 split
 ·rfl
 ·rfl
theorem wkL_append : ∀ (l m : List Nd) (d : Int) (u : Option Nd) (s : σ),
  wkL g (l ++ m) d u s = if (wkL g l d u s).1 then wkL g m d u (wkL g l d u s).2 else (false, (wkL g l d u s).2)
 | [], m, d, u, s => by rw [wkL_nil]; rfl
 | t :: r, m, d, u, s => by
  rw [List.cons_append, wkL_cons, wkL_cons]
  split
  ·exact wkL_append r m d u _
  ·rfl
theorem wkL_one (t : Nd) (d : Int) (u : Option Nd) (s : σ) : wkL g [t] d u s = wk g t d u s := by
 rw [wkL_cons, wkL_nil]
 split
 ·rename_i h
  rw [← h]
 ·rename_i h
  have : (wk g t d u s).1 = false := by simpa using h
  rw [← this]
theorem wkL_take {l : List Nd} {i : Nat} (h : i < l.length) (d : Int) (u : Option Nd) (s : σ) (h1 : (wkL g (l.take i) d u s).1 = true) :
  wkL g (l.take (i + 1)) d u s = wk g l[i] d u (wkL g (l.take i) d u s).2 := by
 rw [ntake_succ h, wkL_append, if_pos h1, wkL_one]
theorem wkL_stop {l : List Nd} {i : Nat} (h : i ≤ l.length) (d : Int) (u : Option Nd) (s : σ) (h1 : (wkL g (l.take i) d u s).1 = false) :
  wkL g l d u s = wkL g (l.take i) d u s := by
 have e := wkL_append g (l.take i) (l.drop i) d u s
 rw [List.take_append_drop, if_neg (by rw [h1]; decide)] at e
 rw [e, ← h1]
end
end Go.Proofs.YtmiidhgbdecdkaaGreat
namespace Go.Proofs.YtmiidhgbdecdkaaGreat
open Go.RowKit
set_option linter.unusedVariables false
theorem and_mask (a : Int) (k : Nat) (hk : k < 32) (h0 : 0 ≤ a) (h1 : a < 4294967296) : bits .and .u32 a ((2 ^ k - 1 : Nat) : Int) = a % ((2 ^ k : Nat) : Int) := by
 have hp : 2 ^ k < 2 ^ 32 := Nat.pow_lt_pow_right (by omega) hk
 have hq : 0 < 2 ^ k := Nat.two_pow_pos k
 obtain ⟨n, rfl⟩ := Int.eq_ofNat_of_zero_le h0
 rw [u32_and _ _ h0 h1 (by omega) (by omega), Int.toNat_natCast, Int.toNat_natCast, Nat.and_two_pow_sub_one_eq_mod]
 rfl
theorem and_23 (a : Int) (h0 : 0 ≤ a) (h1 : a < 4294967296) : bits .and .u32 a 8388607 = a % 8388608 := and_mask a 23 (by omega) h0 h1
theorem and_8 (a : Int) (h0 : 0 ≤ a) (h1 : a < 4294967296) : bits .and .u32 a 255 = a % 256 := and_mask a 8 (by omega) h0 h1
theorem and_sign (a : Int) (h0 : 0 ≤ a) (h1 : a < 4294967296) : bits .and .u32 a 2147483648 = if 2147483648 ≤ a then 2147483648 else 0 := by
 rw [u32_and a _ h0 h1 (by omega) (by omega), show (2147483648 : Int).toNat = 2 ^ 31 from rfl, nat_bit]
 split <;> omega
theorem and_sign_ne (a : Int) (h0 : 0 ≤ a) (h1 : a < 4294967296) : (bits .and .u32 a 2147483648 != 0) = decide (2147483648 ≤ a) := by
 rw [and_sign a h0 h1]
 split <;> simp [*]
def cls (a : Int) : Int :=
 if a / 8388608 % 256 = 255 then (if a % 8388608 = 0 then 4 else 5) else if a / 8388608 % 256 = 0 then (if a % 8388608 = 0 then 1 else 2) else 3
def nan (a : Int) : Bool := decide (2139095040 < a % 2147483648)
theorem nan_iff (a : Int) : nan a = true ↔ 2139095040 < a % 2147483648 := by unfold nan; simp
theorem nan_not (a : Int) : nan a = false ↔ a % 2147483648 ≤ 2139095040 := by unfold nan; simp
theorem cls_nan (a : Int) (h : nan a = true) (h0 : 0 ≤ a) (h1 : a < 4294967296) : cls a = 5 := by
 rw [nan_iff] at h; unfold cls; rw [if_pos (by omega), if_neg (by omega)]
theorem cls_num (a : Int) (h : nan a = false) (h0 : 0 ≤ a) (h1 : a < 4294967296) : cls a ≠ 5 := by
 rw [nan_not] at h; unfold cls; repeat' split
 all_goals omega
def key (a : Int) : Int := if 2147483648 ≤ a then -1 - (a - 2147483648) else a
theorem canon_lo (a : Int) (h0 : 0 ≤ a) (h1 : a < 4294967296) : 0 ≤ (if nan a then 2143289344 else a) ∧ (if nan a then 2143289344 else a) < 4294967296 := by split <;> omega
def ofKey (k : Int) : Int := if k < 0 then 2147483648 + (-1 - k) else k
def canon (a : Int) : Int := if nan a then 2143289344 else a
def next (a : Int) : Int := if nan a then 2143289344 else if a = 2139095040 then a else ofKey (key a + 1)
def mk (m : Bool) (e f : Int) : Int := if m then e * 8388608 + f + 2147483648 else e * 8388608 + f
end Go.Proofs.YtmiidhgbdecdkaaGreat
namespace Go.Proofs.YtmiidhgbdecdkaaGreat
open Go.RowKit
set_option linter.unusedVariables false
set_option maxHeartbeats 400000 in
theorem parts_any (a : Int) (h0 : 0 ≤ a) (h1 : a < 4294967296) (w : World) :
  Calls Tryz.prog 141 #[.int .u32 a] w fun e w' => e = .returned (.tuple #[.bool (decide (2147483648 ≤ a)), .int .i64 (a / 8388608 % 256), .int .i64 (a % 8388608)]) ∧ w' = w := by
 have e1 := and_sign_ne a h0 h1
 have e2 := and_8 (a / 8388608) (by omega) (by omega)
 have e3 := and_23 a h0 h1
 go_enter Tryz.func141, Tryz.ntmps141
 go_wp2
 go_ret3
 exact ⟨rfl, rfl⟩
theorem ret_int {k : IntKind} {a b : Int} (h : a = b) : Ending.returned (.int k a) = .returned (.int k b) := by rw [h]
set_option maxHeartbeats 400000 in
theorem class_any (a : Int) (h0 : 0 ≤ a) (h1 : a < 4294967296) (w : World) :
  Calls Tryz.prog 132 #[.int .u32 a] w fun e w' => e = .returned (.int .i64 (cls a)) ∧ w' = w := by
 by_cases c1 : a / 8388608 % 256 = 255
 ·by_cases c2 : a % 8388608 = 0
  ·have hc : cls a = 4 := by unfold cls; rw [if_pos c1, if_pos c2]
   rw [hc]; clear hc
   go_enter Tryz.func132, Tryz.ntmps132
   go_wp2_with (go_at_call 141; refine (parts_any _ h0 h1 _).mono ?_; rintro e w' ⟨rfl, rfl⟩)
   go_ret
   exact ⟨rfl, rfl⟩
  ·have hc : cls a = 5 := by unfold cls; rw [if_pos c1, if_neg c2]
   rw [hc]; clear hc
   go_enter Tryz.func132, Tryz.ntmps132
   go_wp2_with (go_at_call 141; refine (parts_any _ h0 h1 _).mono ?_; rintro e w' ⟨rfl, rfl⟩)
   go_ret
   exact ⟨rfl, rfl⟩
 ·by_cases c2 : a / 8388608 % 256 = 0
  ·by_cases c3 : a % 8388608 = 0
   ·have hc : cls a = 1 := by unfold cls; rw [if_neg c1, if_pos c2, if_pos c3]
    rw [hc]; clear hc
    go_enter Tryz.func132, Tryz.ntmps132
    go_wp2_with (go_at_call 141; refine (parts_any _ h0 h1 _).mono ?_; rintro e w' ⟨rfl, rfl⟩)
    go_ret
    exact ⟨rfl, rfl⟩
   ·have hc : cls a = 2 := by unfold cls; rw [if_neg c1, if_pos c2, if_neg c3]
    rw [hc]; clear hc
    go_enter Tryz.func132, Tryz.ntmps132
    go_wp2_with (go_at_call 141; refine (parts_any _ h0 h1 _).mono ?_; rintro e w' ⟨rfl, rfl⟩)
    go_ret
    exact ⟨rfl, rfl⟩
  ·have hc : cls a = 3 := by unfold cls; rw [if_neg c1, if_neg c2]
   rw [hc]; clear hc
   go_enter Tryz.func132, Tryz.ntmps132
   go_wp2_with (go_at_call 141; refine (parts_any _ h0 h1 _).mono ?_; rintro e w' ⟨rfl, rfl⟩)
   go_ret
   exact ⟨rfl, rfl⟩
theorem class_nan (a : Int) (h0 : 0 ≤ a) (h1 : a < 4294967296) (hn : nan a = true) (w : World) :
  Calls Tryz.prog 132 #[.int .u32 a] w fun e w' => e = .returned (.int .i64 5) ∧ w' = w := by
 have := class_any a h0 h1 w
 rwa [cls_nan a hn h0 h1] at this
set_option maxHeartbeats 400000 in
theorem canon_any (a : Int) (h0 : 0 ≤ a) (h1 : a < 4294967296) (w : World) :
  Calls Tryz.prog 139 #[.int .u32 a] w fun e w' => e = .returned (.int .u32 (canon a)) ∧ w' = w := by
 cases hn : nan a
 ·have hc : canon a = a := by unfold canon; simp [hn]
  have h5 : (cls a == 5) = false := by have := cls_num a hn h0 h1; simpa using this
  rw [hc]; clear hc hn
  go_enter Tryz.func139, Tryz.ntmps139
  go_wp2_with (go_at_call 132; refine (class_any _ h0 h1 _).mono ?_; rintro e w' ⟨rfl, rfl⟩)
  go_ret
  exact ⟨rfl, rfl⟩
 ·have hc : canon a = 2143289344 := by unfold canon; simp [hn]
  rw [hc]; clear hc
  go_enter Tryz.func139, Tryz.ntmps139
  go_wp2_with (go_at_call 132; refine (class_nan _ h0 h1 hn _).mono ?_; rintro e w' ⟨rfl, rfl⟩)
  go_ret
  exact ⟨rfl, rfl⟩
end Go.Proofs.YtmiidhgbdecdkaaGreat
namespace Go.Proofs.YtmiidhgbdecdkaaGreat
open Go.RowKit
theorem bel {a b c : World} (h : Below a.heap.size a b) (k : Below b.heap.size b c) : Below a.heap.size a c := h.trans (k.mono h.size)
theorem bel0 (w : World) : Below w.heap.size w w := Below.refl _ _
end Go.Proofs.YtmiidhgbdecdkaaGreat
namespace Go.Proofs.YtmiidhgbdecdkaaGreat
open Go.RowKit
set_option linter.unusedVariables false
set_option linter.unusedSimpArgs false
theorem bel_alloc (w : World) (o : Obj) : Below w.heap.size w (w.alloc o) := (Below.refl _ _).alloc (Nat.le_refl _) o
theorem bel_dn (w : World) (n : Nat) : Below w.heap.size w (w.drewN n) := ⟨rfl, rfl, rfl, Nat.le_refl _, fun _ _ => rfl⟩
theorem bel_d (w : World) : Below w.heap.size w w.drew := (Below.refl _ _).drew
theorem mcell_lt {w : World} {a : Addr} {v : Value} (h : w.cell? a = some v) : a.block < w.heap.size := by
 rcases Nat.lt_or_ge a.block w.heap.size with c | c
 ·exact c
 ·have : w.heap[a.block]? = none := Array.getElem?_eq_none c
  simp [World.cell?, this] at h
theorem ret_bool {a b : Bool} (h : a = b) : Ending.returned (.bool a) = .returned (.bool b) := by rw [h]
def Ent (k : Nat) : Prop := ∀ (args : Array Value) (w : World), (callFunc k args).run Tryz.prog w = .ok (.enter k args) w
abbrev Heads := Option Addr → Nat → Nat → Prop
def anyH : Heads := fun _ _ _ => True
def KA (w : World) (Q : Heads) (b : Nat) (o : Nat) : List Nd → Prop
 | [] => True
 | ⟨k, n, x, i, y, l, a⟩ :: r =>
  (w.cell? ⟨b, o, none⟩ = some (.int .i64 k) ∧ w.cell? ⟨b, o + 1, none⟩ = some (.string n) ∧ w.cell? ⟨b, o + 2, none⟩ = some (.int .u32 x) ∧ w.cell? ⟨b, o + 3, none⟩ = some (.int .i64 i)
   ∧ w.cell? ⟨b, o + 4, none⟩ = some (.string y) ∧ w.cell? ⟨b, o + 6, none⟩ = some (.int .i64 a)
   ∧ ∃ p c, w.cell? ⟨b, o + 5, none⟩ = some (.slice p l.length c) ∧ Q p l.length c ∧ (l = [] ∨ ∃ b' o', p = some ⟨b', o', none⟩ ∧ KA w Q b' o' l))
  ∧ KA w Q b (o + 7) r
def Kids (w : World) (Q : Heads) (v : Value) (l : List Nd) : Prop :=
 ∃ p c, v = .slice p l.length c ∧ Q p l.length c ∧ (l = [] ∨ ∃ b o, p = some ⟨b, o, none⟩ ∧ KA w Q b o l)
def NodeA (w : World) (Q : Heads) (b o : Nat) (t : Nd) : Prop :=
 w.cell? ⟨b, o, none⟩ = some (.int .i64 t.kind) ∧ w.cell? ⟨b, o + 1, none⟩ = some (.string t.name) ∧ w.cell? ⟨b, o + 2, none⟩ = some (.int .u32 t.num) ∧ w.cell? ⟨b, o + 3, none⟩ = some (.int .i64 t.int_)
  ∧ w.cell? ⟨b, o + 4, none⟩ = some (.string t.key) ∧ w.cell? ⟨b, o + 6, none⟩ = some (.int .i64 t.at_) ∧ ∃ sv, w.cell? ⟨b, o + 5, none⟩ = some sv ∧ Kids w Q sv t.args
theorem KA_nil (w : World) (Q : Heads) (b o : Nat) : KA w Q b o [] := by simp [KA]
theorem KA_cons {w : World} {Q : Heads} {b o : Nat} {t : Nd} {r : List Nd} : KA w Q b o (t :: r) ↔ NodeA w Q b o t ∧ KA w Q b (o + 7) r := by
 cases t
 rw [KA]
 unfold NodeA Kids
 refine and_congr_left fun _ => ?_
 constructor
 ·rintro ⟨h0, h1, h2, h3, h4, h6, p, c, h5, hq, hk⟩
  exact ⟨h0, h1, h2, h3, h4, h6, _, h5, p, c, rfl, hq, hk⟩
 ·rintro ⟨h0, h1, h2, h3, h4, h6, _, h5, p, c, rfl, hq, hk⟩
  exact ⟨h0, h1, h2, h3, h4, h6, p, c, h5, hq, hk⟩
theorem KA_get {w : World} {Q : Heads} {b o : Nat} {l : List Nd} (h : KA w Q b o l) {i : Nat} (hi : i < l.length) : NodeA w Q b (o + i * 7) l[i] := by
 induction l generalizing o i with
 | nil => exact absurd hi (Nat.not_lt_zero _)
 | cons t r ih =>
  rw [KA_cons] at h
  cases i with
  | zero => simpa using h.1
  | succ i =>
   have := ih h.2 (i := i) (by simpa using hi)
   rw [show o + 7 + i * 7 = o + (i + 1) * 7 by omega] at this
   simpa using this
theorem KA_of {w : World} {Q : Heads} {b o : Nat} {l : List Nd} (h : ∀ i (hi : i < l.length), NodeA w Q b (o + i * 7) l[i]) : KA w Q b o l := by
 induction l generalizing o with
 | nil => exact KA_nil _ _ _ _
 | cons t r ih =>
  rw [KA_cons]
  have h0 := h 0 (Nat.succ_pos _)
  rw [Nat.zero_mul, Nat.add_zero] at h0
  refine ⟨h0, ih fun i hi => ?_⟩
  have := h (i + 1) (Nat.succ_lt_succ hi)
  rw [show o + (i + 1) * 7 = o + 7 + i * 7 by omega] at this
  simpa using this
theorem KA_keep {w w' : World} {Q : Heads} (hQ : ∀ p n c b o j v, Q p n c → p = some ⟨b, o, none⟩ → w.cell? ⟨b, o + j, none⟩ = some v → w'.cell? ⟨b, o + j, none⟩ = some v) :
  ∀ (l : List Nd) (b o : Nat), (∀ j v, w.cell? ⟨b, o + j, none⟩ = some v → w'.cell? ⟨b, o + j, none⟩ = some v) → KA w Q b o l → KA w' Q b o l := by
 apply forest (P := fun l => ∀ (b o : Nat), (∀ j v, w.cell? ⟨b, o + j, none⟩ = some v → w'.cell? ⟨b, o + j, none⟩ = some v) → KA w Q b o l → KA w' Q b o l)
 ·intro b o _ _
  exact KA_nil _ _ _ _
 ·intro t r h1 h2 b o hc h
  rw [KA_cons] at h ⊢
  obtain ⟨⟨e0, e1, e2, e3, e4, e6, sv, e5, p, c, hv, hq, hk⟩, hr⟩ := h
  refine ⟨⟨hc 0 _ e0, hc 1 _ e1, hc 2 _ e2, hc 3 _ e3, hc 4 _ e4, hc 6 _ e6, sv, hc 5 _ e5, p, c, hv, hq, ?_⟩, h2 b (o + 7) (fun j v hj => ?_) hr⟩
  ·rcases hk with hk | ⟨b', o', hp, hk⟩
   ·exact .inl hk
   ·exact .inr ⟨b', o', hp, h1 b' o' (fun j v hj => hQ p _ c b' o' j v hq hp hj) hk⟩
  ·rw [Nat.add_assoc] at hj ⊢
   exact hc (7 + j) v hj
theorem Kids.keep {w w' : World} {Q : Heads} {v : Value} {l : List Nd} (h : Kids w Q v l) (hQ : ∀ p n c b o j v, Q p n c → p = some ⟨b, o, none⟩ → w.cell? ⟨b, o + j, none⟩ = some v → w'.cell? ⟨b, o + j, none⟩ = some v) : Kids w' Q v l := by
 obtain ⟨p, c, hv, hq, hk⟩ := h
 refine ⟨p, c, hv, hq, ?_⟩
 rcases hk with hk | ⟨b', o', hp, hk⟩
 ·exact .inl hk
 ·exact .inr ⟨b', o', hp, KA_keep hQ _ b' o' (fun j v hj => hQ p _ c b' o' j v hq hp hj) hk⟩
theorem Kids.below {w w' : World} {Q : Heads} {v : Value} {l : List Nd} (h : Kids w Q v l) (k : Below w.heap.size w w') : Kids w' Q v l :=
 h.keep fun p n c b o j v _ _ hj => (k.cell (mcell_lt hj)).trans hj
theorem KA.below {w w' : World} {Q : Heads} {b o : Nat} {l : List Nd} (h : KA w Q b o l) (k : Below w.heap.size w w') : KA w' Q b o l :=
 KA_keep (fun p n c b o j v _ _ hj => (k.cell (mcell_lt hj)).trans hj) l b o (fun j v hj => (k.cell (mcell_lt hj)).trans hj) h
theorem NodeA.below {w w' : World} {Q : Heads} {b o : Nat} {t : Nd} (h : NodeA w Q b o t) (k : Below w.heap.size w w') : NodeA w' Q b o t := by
 have h1 : KA w Q b o [t] := KA_cons.2 ⟨h, KA_nil _ _ _ _⟩
 exact (KA_cons.1 (h1.below k)).1
theorem KA_weak {w : World} {Q R : Heads} (hQ : ∀ p n c, Q p n c → R p n c) : ∀ (l : List Nd) (b o : Nat), KA w Q b o l → KA w R b o l := by
 apply forest (P := fun l => ∀ (b o : Nat), KA w Q b o l → KA w R b o l)
 ·intro b o _
  exact KA_nil _ _ _ _
 ·intro t r h1 h2 b o h
  rw [KA_cons] at h ⊢
  obtain ⟨⟨e0, e1, e2, e3, e4, e6, sv, e5, p, c, hv, hq, hk⟩, hr⟩ := h
  refine ⟨⟨e0, e1, e2, e3, e4, e6, sv, e5, p, c, hv, hQ _ _ _ hq, ?_⟩, h2 b (o + 7) hr⟩
  rcases hk with hk | ⟨b', o', hp, hk⟩
  ·exact .inl hk
  ·exact .inr ⟨b', o', hp, h1 b' o' hk⟩
theorem Kids.weak {w : World} {Q R : Heads} {v : Value} {l : List Nd} (h : Kids w Q v l) (hQ : ∀ p n c, Q p n c → R p n c) : Kids w R v l := by
 obtain ⟨p, c, hv, hq, hk⟩ := h
 refine ⟨p, c, hv, hQ _ _ _ hq, ?_⟩
 rcases hk with hk | ⟨b', o', hp, hk⟩
 ·exact .inl hk
 ·exact .inr ⟨b', o', hp, KA_weak hQ _ b' o' hk⟩
theorem NodeA.weak {w : World} {Q R : Heads} {b o : Nat} {t : Nd} (h : NodeA w Q b o t) (hQ : ∀ p n c, Q p n c → R p n c) : NodeA w R b o t := by
 obtain ⟨e0, e1, e2, e3, e4, e6, sv, e5, hk⟩ := h
 exact ⟨e0, e1, e2, e3, e4, e6, sv, e5, hk.weak hQ⟩
def nv (t : Nd) (sv : Value) : Value := .agg #[.int .i64 t.kind, .string t.name, .int .u32 t.num, .int .i64 t.int_, .string t.key, sv, .int .i64 t.at_]
end Go.Proofs.YtmiidhgbdecdkaaGreat
namespace Go.Proofs.YtmiidhgbdecdkaaGreat
open Go.Shelf Go.RowKit
def sh_laysM316_ren : Go.Shelf.Ren := ⟨fun | 316 => 112 | n => n, fun | 9 => 9 | 3 => 3 | 4 => 4 | 37 => 170 | 0 => 0 | 127 => 171 | 5 => 5 | n => n, fun | n => n⟩
theorem sh_laysM316 : Go.Proofs.LaysM.n316 Tryz.prog sh_laysM316_ren := {
 mixed := by kernel_rfl
 f316 := Tryz.func112.trans (congrArg some (by kernel_rfl))
 t0 := Tryz.underlying0
 a0 := Tryz.isAgg0
 z0 := Tryz.sizeOf0
 v0 := Tryz.zeroValue0
 t3 := Tryz.underlying3
 a3 := Tryz.isAgg3
 z3 := Tryz.sizeOf3
 v3 := Tryz.zeroValue3
 t4 := Tryz.underlying4
 a4 := Tryz.isAgg4
 z4 := Tryz.sizeOf4
 v4 := Tryz.zeroValue4
 t9 := Tryz.underlying9
 a9 := Tryz.isAgg9
 z9 := Tryz.sizeOf9
 v9 := Tryz.zeroValue9
 t37 := Tryz.underlying170
 a37 := Tryz.isAgg170
 z37 := Tryz.sizeOf170
 v37 := Tryz.zeroValue170
 t127 := Tryz.underlying171
 a127 := Tryz.isAgg171
 z127 := Tryz.sizeOf171
 v127 := Tryz.zeroValue171
 t5 := Tryz.underlying5
 a5 := Tryz.isAgg5
 z5 := Tryz.sizeOf5
 v5 := Tryz.zeroValue5
 i0 := by kernel_rfl
 i3 := by kernel_rfl
 i4 := by kernel_rfl
 i5 := by kernel_rfl
 i9 := by kernel_rfl
 i37 := by kernel_rfl
 i127 := by kernel_rfl }
theorem sh_stringslite_Clone (s : ByteArray) (w : World) (hlim : s.size ≤ 281474976710656) :
  Calls Tryz.prog 112 #[.string s] w fun e w' => e = .returned (.string s) ∧ Below w.heap.size w w' := Any.stringslite_Clone sh_laysM316 s w hlim
set_option maxHeartbeats 400000 in
theorem clone_any (s : ByteArray) (hs : s.size ≤ 140737488351232) (w : World) :
  Calls Tryz.prog 85 #[.string s] w fun e w' => e = .returned (.string s) ∧ Below w.heap.size w w' := by
 go_enter Tryz.func85, Tryz.ntmps85
 go_wp2_with (go_at_call 112; refine (sh_stringslite_Clone s _ (by omega)).mono ?_; rintro e w1 ⟨rfl, hb⟩)
 go_ret
 exact ⟨rfl, hb⟩
end Go.Proofs.YtmiidhgbdecdkaaGreat
namespace Go.Proofs.YtmiidhgbdecdkaaGreat
open Go.RowKit
set_option linter.unusedVariables false
set_option linter.unusedSimpArgs false
def Ab (L : World → Nat → Nat → Nd → Prop) (w : World) (av : Option Addr) (u : Option Nd) : Prop :=
 (av = none ∧ u = none) ∨ ∃ b o t, av = some ⟨b, o, none⟩ ∧ u = some t ∧ L w b o t
structure Looks {σ : Type} (k : Nat) (cap : Array Value) (g : σ → Nd → Int → Option Nd → Bool × σ) (R : World → World → Prop) (L : World → Nat → Nat → Nd → Prop) (I : Nat → σ → World → Prop) : Prop where
 ent : Ent k
 rb : ∀ w w' : World, Below w.heap.size w w' → R w w'
 rt : ∀ a b c, R a b → R b c → R a c
 rc : ∀ (w w' : World) (G : Nat) (x y : Value), R w w' → w.heap[G]? = some (.cells #[x, y] 75) → w'.heap[G]? = some (.cells #[x, y] 75)
 lr : ∀ w w' b o t, L w b o t → R w w' → L w' b o t
 lk : ∀ (w : World) (b o : Nat) (t : Nd), L w b o t → ∃ p c, w.cell? ⟨b, o + 5, none⟩ = some (.slice p t.args.length c) ∧ (t.args = [] ∨ ∃ b' o', p = some ⟨b', o', none⟩ ∧ ∀ i (h : i < t.args.length), L w b' (o' + i * 7) t.args[i])
 lc : ∀ (w w' : World) (b o : Nat) (t : Nd) (v : Value), L w b o t → R w w' → w.cell? ⟨b, o + 5, none⟩ = some v → w'.cell? ⟨b, o + 5, none⟩ = some v
 ib : ∀ m s (w w' : World), I m s w → Below w.heap.size w w' → I m s w'
 im : ∀ m m' s w, m ≤ m' → I m' s w → I m s w
 look : ∀ (m : Nat) (s : σ) (w : World) (b o : Nat) (t : Nd) (d : Int) (av : Option Addr) (u : Option Nd), I (m + 1) s w → L w b o t → Ab L w av u →
  Calls Tryz.prog k (#[.pointer (some ⟨b, o, none⟩), .agg #[.int .i64 d, .pointer av]] ++ cap) w fun e w' => e = .returned (.bool (g s t d u).1) ∧ I m (g s t d u).2 w' ∧ R w w'
theorem Ab.r {σ : Type} {k : Nat} {cap : Array Value} {g : σ → Nd → Int → Option Nd → Bool × σ} {R : World → World → Prop} {L : World → Nat → Nat → Nd → Prop} {I : Nat → σ → World → Prop}
  (H : Looks k cap g R L I) {w w' : World} {av : Option Addr} {u : Option Nd} (h : Ab L w av u) (r : R w w') : Ab L w' av u := by
 rcases h with h | ⟨b, o, t, h1, h2, h3⟩
 ·exact .inl h
 ·exact .inr ⟨b, o, t, h1, h2, H.lr _ _ _ _ _ h3 r⟩
theorem box_heap (w : World) (x : Obj) : (w.alloc x).heap[w.heap.size]? = some x := (MapKept.heap_alloc w _).1
theorem box_cell {w : World} {G : Nat} {x y : Value} {t : TypeId} (h : w.heap[G]? = some (.cells #[x, y] t)) : w.cell? ⟨G, 0, none⟩ = some x ∧ w.cell? ⟨G, 1, none⟩ = some y := by
 simp [World.cell?, h]
set_option maxRecDepth 100000 in
set_option maxHeartbeats 2000000 in
theorem walk_any {σ : Type} {k : Nat} {cap : Array Value} {g : σ → Nd → Int → Option Nd → Bool × σ} {R : World → World → Prop} {L : World → Nat → Nat → Nd → Prop} {I : Nat → σ → World → Prop}
  (H : Looks k cap g R L I) : ∀ (N : Nat) (t : Nd) (m : Nat) (s : σ) (w : World) (b o : Nat) (d : Int) (av : Option Addr) (u : Option Nd), dep t ≤ N → cnt t ≤ 99000 → 0 ≤ d → d + N ≤ 200000 → I (m + cnt t) s w → L w b o t → Ab L w av u →
  Calls Tryz.prog 39 #[.pointer (some ⟨b, o, none⟩), .agg #[.int .i64 d, .pointer av], .func (.func k) #[] cap] w fun e w' => e = .returned (.bool (wk g t d u s).1) ∧ I m (wk g t d u s).2 w' ∧ R w w' := by
 intro N
 induction N with
 | zero => intro t m s w b o d av u hd; unfold dep at hd; omega
 | succ N ih =>
  intro t m s w b o d av u hd hc d0 d1 hI hL hA
  have hen := H.ent
  unfold Ent at hen
  have hB1 := bel_alloc w (.cells #[.int .i64 d, .pointer av] 75)
  have HK := H.look (m + cntL t.args) s _ b o t d av u (H.ib _ _ _ _ (by rw [show m + cntL t.args + 1 = m + cnt t by unfold cnt; omega]; exact hI) hB1) (H.lr _ _ _ _ _ hL (H.rb _ _ hB1)) (hA.r H (H.rb _ _ hB1))
  have hbx := box_heap w (.cells #[.int .i64 d, .pointer av] 75)
  obtain ⟨gb, s1, hg⟩ : ∃ gb s1, g s t d u = (gb, s1) := ⟨_, _, rfl⟩
  have ew : wk g t d u s = if gb then wkL g t.args (d + 1) (some t) s1 else (false, s1) := by unfold wk; rw [hg]
  rw [hg] at HK
  have HK1 : Hid (Calls Tryz.prog k (#[.pointer (some ⟨b, o, none⟩), .agg #[.int .i64 d, .pointer av]] ++ cap) (w.alloc (.cells #[.int .i64 d, .pointer av] 75)) fun e w' => e = .returned (.bool gb) ∧ I (m + cntL t.args) s1 w' ∧ R w w' ∧ w'.heap[w.heap.size]? = some (.cells #[.int .i64 d, .pointer av] 75)) :=
   HK.mono fun e w' h => ⟨h.1, h.2.1, H.rt _ _ _ (H.rb _ _ hB1) h.2.2, H.rc _ _ _ _ _ h.2.2 hbx⟩
  rw [ew]
  clear HK hbx ew hI
  cases gb with
  | false =>
   go_enter Tryz.func39, Tryz.ntmps39
   go_wp2_with ((with_reducible refine HK1.out.mono ?_); rintro e w2 ⟨rfl, hI2, hR2, hx2⟩)
   go_ret
   exact ⟨rfl, H.im _ _ _ _ (by omega) hI2, hR2⟩
  | true =>
   have hlen : t.args.length ≤ 99000 := by have := cntL_len t.args; unfold cnt at hc; omega
   obtain ⟨n, hn⟩ : ∃ n, t.args.length = n := ⟨_, rfl⟩
   have HN : Hid (t.args.length = n) := hn
   rw [hn] at hlen
   clear hn
   have hlk : ∀ v, R w v → ∃ p c, v.cell? ⟨b, o + 5, none⟩ = some (.slice p n c) ∧ (t.args = [] ∨ ∃ b' o', p = some ⟨b', o', none⟩ ∧ ∀ i (h : i < t.args.length), L v b' (o' + i * 7) t.args[i]) := fun v hv => by
    obtain ⟨p, c, h1, h2⟩ := H.lk v b o t (H.lr _ _ _ _ _ hL hv)
    rw [HN.out] at h1
    exact ⟨p, c, h1, h2⟩
   have HLK : Hid (∀ v, R w v → ∃ p c, v.cell? ⟨b, o + 5, none⟩ = some (.slice p n c) ∧ (t.args = [] ∨ ∃ b' o', p = some ⟨b', o', none⟩ ∧ ∀ i (h : i < t.args.length), L v b' (o' + i * 7) t.args[i])) := hlk
   clear hlk
   go_enter Tryz.func39, Tryz.ntmps39
   go_wp2_with ((with_reducible refine HK1.out.mono ?_); rintro e w2 ⟨rfl, hI2, hR2, hx2⟩; obtain ⟨p, c, h5, -⟩ := HLK.out w2 hR2)
   go_loopw [18] (fun iv wr => R w wr ∧ ∃ j : Nat, j ≤ n ∧ iv = .int .i64 j ∧ wr.heap[w.heap.size]? = some (.cells #[.int .i64 d, .pointer av] 75) ∧ Hid ((wkL g (t.args.take j) (d + 1) (some t) s1).1 = true ∧ I (m + cntL (t.args.drop j)) (wkL g (t.args.take j) (d + 1) (some t) s1).2 wr)) (fun iv _ => n - (intOf iv).toNat)
   case atStart => exact ⟨hR2, 0, Nat.zero_le _, rfl, hx2, by rw [List.take_zero, wkL_nil, List.drop_zero]; exact ⟨rfl, hI2⟩⟩
   case round =>
    obtain ⟨hR, j, hj, rfl, hx, hS⟩ := hrel
    clear HK1 h5 hx2 hI2
    by_cases hlt : j < n
    ·obtain ⟨p', c', h5', hk0⟩ := HLK.out wr hR
     have hll : j < t.args.length := by rw [HN.out]; exact hlt
     obtain ⟨b', o', rfl, hk⟩ : ∃ b' o', p' = some ⟨b', o', none⟩ ∧ ∀ i (h : i < t.args.length), L wr b' (o' + i * 7) t.args[i] := by
      rcases hk0 with hk | hk
      ·rw [hk] at hll; exact absurd hll (Nat.not_lt_zero _)
      ·exact hk
     clear hk0
     have hbx := (box_cell hx).1
     obtain ⟨cb, s2, hcb⟩ : ∃ cb s2, wk g t.args[j] (d + 1) (some t) (wkL g (t.args.take j) (d + 1) (some t) s1).2 = (cb, s2) := ⟨_, _, rfl⟩
     have hdr : cntL (t.args.drop j) = cnt t.args[j] + cntL (t.args.drop (j + 1)) := by rw [List.drop_eq_getElem_cons hll, cntL_cons]
     have hnx : wkL g (t.args.take (j + 1)) (d + 1) (some t) s1 = (cb, s2) := by rw [wkL_take g hll _ _ _ hS.out.1, hcb]
     have HW : Hid (∀ v, Below wr.heap.size wr v → Calls Tryz.prog 39 #[.pointer (some ⟨b', o' + j * 7, none⟩), .agg #[.int .i64 (d + 1), .pointer (some ⟨b, o, none⟩)], .func (.func k) #[] cap] v fun e v' => e = .returned (.bool cb) ∧ I (m + cntL (t.args.drop (j + 1))) s2 v' ∧ R wr v' ∧ v'.heap[w.heap.size]? = some (.cells #[.int .i64 d, .pointer av] 75) ∧ v'.cell? ⟨w.heap.size, 0, none⟩ = some (.int .i64 d) ∧ v'.cell? ⟨b, o + 5, none⟩ = some (.slice (some ⟨b', o', none⟩) n c')) := fun v hv => by
      have hRv := H.rb _ _ hv
      have := ih t.args[j] (m + cntL (t.args.drop (j + 1))) _ v b' (o' + j * 7) (d + 1) (some ⟨b, o, none⟩) (some t) (by have := dep_get hll; unfold dep at hd ⊢; unfold dep at this; omega) (by have := cnt_get hll; unfold cnt at hc ⊢; unfold cnt at this; omega) (by omega) (by omega)
       (H.ib _ _ _ _ (by rw [show m + cntL (t.args.drop (j + 1)) + cnt t.args[j] = m + cntL (t.args.drop j) by omega]; exact hS.out.2) hv) (H.lr _ _ _ _ _ (hk j hll) hRv) (.inr ⟨b, o, t, rfl, rfl, H.lr _ _ _ _ _ hL (H.rt _ _ _ hR hRv)⟩)
      rw [hcb] at this
      refine this.mono fun e v' ⟨he, hi, hr⟩ => ?_
      have hrr := H.rt _ _ _ hRv hr
      have hx' := H.rc _ _ _ _ _ hrr hx
      exact ⟨he, hi, hrr, hx', (box_cell hx').1, H.lc _ _ _ _ _ _ (H.lr _ _ _ _ _ hL hR) hrr h5'⟩
     have wd : IntKind.i64.wrap (d + 1) = d + 1 := by rw [IntKind.wrap_i64]; omega
     have i1 : (0 : Int) ≤ (j : Int) := by omega
     have i2 : (j : Int) < (n : Int) := by omega
     have HH : Hid (wkL g (t.args.take (j + 1)) (d + 1) (some t) s1 = (cb, s2)) := hnx
     clear hk hx hcb hdr hnx hS HLK hd hc hA hL ih
     cases cb with
     | false =>
      go_wp2
      go_region_held3 (fun w' => w'.cell? ⟨b, o + 5, none⟩ = some (.slice (some ⟨b', o', none⟩) n c') ∧ w'.cell? ⟨w.heap.size, 0, none⟩ = some (.int .i64 d)) (go_keep) (first
       | (go_at_call 39; (with_reducible refine (HW.out _ ?_).mono ?_); (first | exact bel_d _ | exact bel_dn _ _ | go_grown); rintro e w3 ⟨rfl, hI3, hR3, hx3, hx4, hx5⟩))
      go_wp2
      go_ret
      rw [wkL_stop g (i := j + 1) (by omega) _ _ _ (by rw [HH.out]), HH.out]
      exact ⟨rfl, H.im _ _ _ _ (by omega) hI3, H.rt _ _ _ hR hR3⟩
     | true =>
      go_wp2
      go_region_held3 (fun w' => w'.cell? ⟨b, o + 5, none⟩ = some (.slice (some ⟨b', o', none⟩) n c') ∧ w'.cell? ⟨w.heap.size, 0, none⟩ = some (.int .i64 d)) (go_keep) (first
       | (go_at_call 39; (with_reducible refine (HW.out _ ?_).mono ?_); (first | exact bel_d _ | exact bel_dn _ _ | go_grown); rintro e w3 ⟨rfl, hI3, hR3, hx3, hx4, hx5⟩))
      go_wp2
      go_roundw
      case rel => exact ⟨H.rt _ _ _ hR hR3, j + 1, by omega, by go_num, hx3, by rw [HH.out]; exact ⟨rfl, hI3⟩⟩
      case measure => simp [intOf]; omega
    ·have : j = n := by omega
     subst this
     go_wp2
     go_ret
     obtain ⟨h1, h2⟩ := hS.out
     rw [List.take_of_length_le (by rw [HN.out]; exact Nat.le_refl _)] at h1 h2
     rw [List.drop_of_length_le (by rw [HN.out]; exact Nat.le_refl _), cntL_nil, Nat.add_zero] at h2
     exact ⟨ret_bool h1.symm, h2, hR⟩
end Go.Proofs.YtmiidhgbdecdkaaGreat
namespace Go.Proofs.YtmiidhgbdecdkaaGreat
open Go.RowKit
set_option linter.unusedVariables false
set_option linter.unusedSimpArgs false
def RT (B : Nat) (w w' : World) : Prop :=
 (B ≤ w.heap.size → Below B w w') ∧ w.heap.size ≤ w'.heap.size ∧ ∀ (G : Nat) (x y : Value), w.heap[G]? = some (.cells #[x, y] 75) → w'.heap[G]? = some (.cells #[x, y] 75)
theorem hlt {w : World} {G : Nat} {o : Obj} (h : w.heap[G]? = some o) : G < w.heap.size := by
 rcases Nat.lt_or_ge G w.heap.size with c | c
 ·exact c
 ·rw [Array.getElem?_eq_none c] at h; cases h
theorem RT.below {B : Nat} {w w' : World} (h : Below w.heap.size w w') : RT B w w' :=
 ⟨fun hB => h.mono hB, h.size, fun G x y hG => by rw [h.block G (hlt hG)]; exact hG⟩
theorem RT.trans {B : Nat} {a b c : World} (h : RT B a b) (k : RT B b c) : RT B a c :=
 ⟨fun hB => (h.1 hB).trans (k.1 (Nat.le_trans hB h.2.1)), Nat.le_trans h.2.1 k.2.1, fun G x y hG => k.2.2 G x y (h.2.2 G x y hG)⟩
theorem heap_set {w : World} {C : Nat} {x : Value} {t : TypeId} (h : w.heap[C]? = some (.cells #[x] t)) (v : Value) : (w.setCell ⟨C, 0, none⟩ v).heap[C]? = some (.cells #[v] t) := by
 simp [World.setCell, Array.getElem?_modify, h]
theorem heap_old (w : World) {C : Nat} {o : Obj} (x : Obj) (h : w.heap[C]? = some o) : (w.alloc x).heap[C]? = some o := by
 rw [Below.heap_alloc w x C (hlt h)]; exact h
theorem RT.set {B : Nat} {w : World} {C : Nat} {x : Value} {t : TypeId} (h : w.heap[C]? = some (.cells #[x] t)) (hB : B ≤ C) (v : Value) : RT B w (w.setCell ⟨C, 0, none⟩ v) := by
 refine ⟨fun _ => (Below.refl _ _).setCell hB v, by simp [World.setCell], fun G y z hG => ?_⟩
 have hne : G ≠ C := by rintro rfl; rw [h] at hG; simp at hG
 rw [Below.heap_setCell _ _ _ _ (by exact hne)]
 exact hG
theorem one_cell {w : World} {C : Nat} {x : Value} {t : TypeId} (h : w.heap[C]? = some (.cells #[x] t)) : w.cell? ⟨C, 0, none⟩ = some x ∧ w.frozen? ⟨C, 0, none⟩ = false := by
 simp [World.cell?, World.frozen?, h]
def LT (W : World) (w : World) (b o : Nat) (t : Nd) : Prop := NodeA W anyH b o t ∧ (ok1 t ∧ cnt t ≤ 99000) ∧ Below W.heap.size W w
theorem LT.node {W w : World} {b o : Nat} {t : Nd} (h : LT W w b o t) : NodeA w anyH b o t := h.1.below h.2.2
theorem looks_of {σ : Type} (W : World) {k : Nat} {cap : Array Value} {g : σ → Nd → Int → Option Nd → Bool × σ} {I : Nat → σ → World → Prop} (hen : Ent k)
  (hib : ∀ m s (w w' : World), I m s w → Below w.heap.size w w' → I m s w') (him : ∀ m m' s w, m ≤ m' → I m' s w → I m s w)
  (hl : ∀ (m : Nat) (s : σ) (w : World) (b o : Nat) (t : Nd) (d : Int) (av : Option Addr) (u : Option Nd), I (m + 1) s w → LT W w b o t → Ab (LT W) w av u →
   Calls Tryz.prog k (#[.pointer (some ⟨b, o, none⟩), .agg #[.int .i64 d, .pointer av]] ++ cap) w fun e w' => e = .returned (.bool (g s t d u).1) ∧ I m (g s t d u).2 w' ∧ RT W.heap.size w w') :
  Looks k cap g (RT W.heap.size) (LT W) I where
 ent := hen
 rb := fun w w' h => RT.below h
 rt := fun a b c h k => h.trans k
 rc := fun w w' G x y h hG => h.2.2 G x y hG
 lr := fun w w' b o t h r => ⟨h.1, h.2.1, h.2.2.trans (r.1 h.2.2.size)⟩
 lk := fun w b o t h => by
  obtain ⟨⟨e0, e1, e2, e3, e4, e6, sv, e5, p, c, hv, hq, hk⟩, hok, hb⟩ := h
  subst hv
  refine ⟨p, c, (hb.cell (mcell_lt e5)).trans e5, ?_⟩
  rcases hk with hk | ⟨b', o', hp, hk⟩
  ·exact .inl hk
  ·exact .inr ⟨b', o', hp, fun i hi => ⟨KA_get hk hi, ⟨okL_get hok.1.2 hi, by have h1 := cnt_get hi; have h2 := hok.2; unfold cnt at h2; omega⟩, hb⟩⟩
 lc := fun w w' b o t v h r hc => by
  have := (r.1 h.2.2.size).cell (p := ⟨b, o + 5, none⟩) (mcell_lt (a := ⟨b, o, none⟩) h.1.1)
  rw [this]; exact hc
 ib := hib
 im := him
 look := hl
theorem top_any (w : World) : Calls Tryz.prog 40 #[] w fun e w' => e = .returned (.agg #[.int .i64 1, .pointer none]) ∧ Below w.heap.size w w' := by
 go_enter Tryz.func40, Tryz.ntmps40
 go_wp2
 go_returns
 exact ⟨rfl, by go_grown⟩
def ICount (C : Nat) (m : Nat) (s : Int) (w : World) : Prop := 0 ≤ s ∧ s + m ≤ 99000 ∧ w.heap[C]? = some (.cells #[.int .i64 s] 3)
theorem ICount.below {C m : Nat} {s : Int} {w w' : World} (h : ICount C m s w) (k : Below w.heap.size w w') : ICount C m s w' :=
 ⟨h.1, h.2.1, by rw [k.block C (hlt h.2.2)]; exact h.2.2⟩
theorem two_heap (w : World) (A B : Obj) : ((w.alloc A).alloc B).heap[w.heap.size + 1]? = some B := by
 have := box_heap (w.alloc A) B
 rwa [show (w.alloc A).heap.size = w.heap.size + 1 by simp] at this
theorem cell_heap {w : World} {G : Nat} {cs : Array Value} {t : TypeId} {f : Nat × Nat} (h : w.heap[G]? = some (.cells cs t f)) (i : Nat) : w.cell? ⟨G, i, none⟩ = cs[i]? := by
 simp [World.cell?, h]
theorem box_node (w : World) (t : Nd) (sv : Value) (hk : Kids w anyH sv t.args) :
  NodeA (w.alloc (.cells #[.int .i64 t.kind, .string t.name, .int .u32 t.num, .int .i64 t.int_, .string t.key, sv, .int .i64 t.at_] 29)) anyH w.heap.size 0 t := by
 have h := box_heap w (.cells #[.int .i64 t.kind, .string t.name, .int .u32 t.num, .int .i64 t.int_, .string t.key, sv, .int .i64 t.at_] 29)
 exact ⟨cell_heap h 0, cell_heap h 1, cell_heap h 2, cell_heap h 3, cell_heap h 4, cell_heap h 6, sv, cell_heap h 5, hk.below (bel_alloc _ _)⟩
end Go.Proofs.YtmiidhgbdecdkaaGreat
namespace Go.Proofs.YtmiidhgbdecdkaaGreat
open Go.RowKit
set_option linter.unusedVariables false
set_option linter.unusedSimpArgs false
theorem info_Node : (Tryz.prog.info? 29).map (fun i => (i.zero, i.size, i.bytes)) = some (some (.agg #[.int .i64 0, .string ⟨#[]⟩, .int .u32 0, .int .i64 0, .string ⟨#[]⟩, .slice none 0 0, .int .i64 0]), 7, 88) := by kernel_rfl
theorem heap_setAt {w : World} {C : Nat} {a : Array Value} {t : TypeId} (h : w.heap[C]? = some (.cells a t)) (i : Nat) (v : Value) : (w.setCell ⟨C, i, none⟩ v).heap[C]? = some (.cells (a.setIfInBounds i v) t) := by
 simp [World.setCell, Array.getElem?_modify, h]
theorem at_cell {w : World} {C : Nat} {a : Array Value} {t : TypeId} (h : w.heap[C]? = some (.cells a t)) (i : Nat) {u : Value} (e : a[i]? = some u) : w.cell? ⟨C, i, none⟩ = some u ∧ w.frozen? ⟨C, i, none⟩ = false := by
 simp [World.cell?, World.frozen?, h, e]
def Off (R : Nat) (v v' : World) : Prop := v'.os = v.os ∧ v'.tape = v.tape ∧ v'.output = v.output ∧ v'.heap.size = v.heap.size ∧ ∀ b, b ≠ R → v'.heap[b]? = v.heap[b]?
theorem Off.refl (R : Nat) (v : World) : Off R v v := ⟨rfl, rfl, rfl, rfl, fun _ _ => rfl⟩
theorem Off.set {R : Nat} {v v' : World} (h : Off R v v') (i : Nat) (x : Value) : Off R v (v'.setCell ⟨R, i, none⟩ x) :=
 ⟨h.1, h.2.1, h.2.2.1, by rw [← h.2.2.2.1]; simp [World.setCell], fun b hb => by rw [Below.heap_setCell _ _ _ _ (by exact hb)]; exact h.2.2.2.2 b hb⟩
theorem Off.below {R B : Nat} {w v v' : World} (h : Off R v v') (k : Below B w v) (hR : B ≤ R) : Below B w v' :=
 ⟨h.1.trans k.os, h.2.1.trans k.tape, h.2.2.1.trans k.output, by rw [h.2.2.2.1]; exact k.size, fun b hb => by rw [h.2.2.2.2 b (by omega)]; exact k.block b hb⟩
theorem seven {v : World} {R : Nat} {a0 a1 a2 a3 a4 a5 a6 : Value} {t : TypeId} (h : v.heap[R]? = some (.cells #[a0, a1, a2, a3, a4, a5, a6] t)) :
  (v.cell? ⟨R, 0, none⟩ = some a0 ∧ v.cell? ⟨R, 1, none⟩ = some a1 ∧ v.cell? ⟨R, 2, none⟩ = some a2 ∧ v.cell? ⟨R, 3, none⟩ = some a3 ∧ v.cell? ⟨R, 4, none⟩ = some a4 ∧ v.cell? ⟨R, 5, none⟩ = some a5 ∧ v.cell? ⟨R, 6, none⟩ = some a6)
  ∧ (v.frozen? ⟨R, 0, none⟩ = false ∧ v.frozen? ⟨R, 1, none⟩ = false ∧ v.frozen? ⟨R, 2, none⟩ = false ∧ v.frozen? ⟨R, 3, none⟩ = false ∧ v.frozen? ⟨R, 4, none⟩ = false ∧ v.frozen? ⟨R, 5, none⟩ = false ∧ v.frozen? ⟨R, 6, none⟩ = false) :=
 ⟨⟨(at_cell h 0 rfl).1, (at_cell h 1 rfl).1, (at_cell h 2 rfl).1, (at_cell h 3 rfl).1, (at_cell h 4 rfl).1, (at_cell h 5 rfl).1, (at_cell h 6 rfl).1⟩,
  (at_cell h 0 rfl).2, (at_cell h 1 rfl).2, (at_cell h 2 rfl).2, (at_cell h 3 rfl).2, (at_cell h 4 rfl).2, (at_cell h 5 rfl).2, (at_cell h 6 rfl).2⟩
def put7 (v : World) (M q : Nat) (a0 a1 a2 a3 a4 a5 a6 : Value) : World :=
 ((((((v.setCell ⟨M, q, none⟩ a0).setCell ⟨M, q + 1, none⟩ a1).setCell ⟨M, q + 2, none⟩ a2).setCell ⟨M, q + 3, none⟩ a3).setCell ⟨M, q + 4, none⟩ a4).setCell ⟨M, q + 5, none⟩ a5).setCell ⟨M, q + 6, none⟩ a6
theorem put7_off (v : World) (M q : Nat) (a0 a1 a2 a3 a4 a5 a6 : Value) : Off M v (put7 v M q a0 a1 a2 a3 a4 a5 a6) :=
 ((((((((Off.refl M v).set q a0).set (q + 1) a1).set (q + 2) a2).set (q + 3) a3).set (q + 4) a4).set (q + 5) a5).set (q + 6) a6)
theorem put7_heap {v : World} {M q : Nat} {cs : Array Value} {t : TypeId} (h : v.heap[M]? = some (.cells cs t)) (hq : q + 7 ≤ cs.size) (a0 a1 a2 a3 a4 a5 a6 : Value) :
  ∃ ds, (put7 v M q a0 a1 a2 a3 a4 a5 a6).heap[M]? = some (.cells ds t) ∧ ds.size = cs.size ∧ (∀ i, i < q ∨ q + 7 ≤ i → ds[i]? = cs[i]?) ∧ ds[q]? = some a0 ∧ ds[q + 1]? = some a1 ∧ ds[q + 2]? = some a2 ∧ ds[q + 3]? = some a3 ∧ ds[q + 4]? = some a4 ∧ ds[q + 5]? = some a5 ∧ ds[q + 6]? = some a6 := by
 refine ⟨_, heap_setAt (heap_setAt (heap_setAt (heap_setAt (heap_setAt (heap_setAt (heap_setAt h _ _) _ _) _ _) _ _) _ _) _ _) _ _, ?_, ?_, ?_, ?_, ?_, ?_, ?_, ?_, ?_⟩
 ·simp
 ·intro i hi
  simp only [Array.getElem?_setIfInBounds]
  repeat (rw [if_neg (by omega)])
 all_goals (simp [Array.getElem?_setIfInBounds]; try omega)
end Go.Proofs.YtmiidhgbdecdkaaGreat
namespace Go.Proofs.YtmiidhgbdecdkaaGreat
open Go.RowKit
set_option linter.unusedVariables false
set_option linter.unusedSimpArgs false
theorem KA_seven {w : World} {Q : Heads} {b o : Nat} {l : List Nd} (h : KA w Q b o l) {i : Nat} (hi : i < l.length) : ∃ p c,
  (w.cell? ⟨b, o + i * 7, none⟩ = some (.int .i64 l[i].kind) ∧ w.cell? ⟨b, o + i * 7 + 1, none⟩ = some (.string l[i].name) ∧ w.cell? ⟨b, o + i * 7 + 2, none⟩ = some (.int .u32 l[i].num) ∧ w.cell? ⟨b, o + i * 7 + 3, none⟩ = some (.int .i64 l[i].int_) ∧ w.cell? ⟨b, o + i * 7 + 4, none⟩ = some (.string l[i].key) ∧ w.cell? ⟨b, o + i * 7 + 5, none⟩ = some (.slice p l[i].args.length c) ∧ w.cell? ⟨b, o + i * 7 + 6, none⟩ = some (.int .i64 l[i].at_))
  ∧ Kids w Q (.slice p l[i].args.length c) l[i].args := by
 obtain ⟨e0, e1, e2, e3, e4, e6, sv, e5, hk⟩ := KA_get h hi
 obtain ⟨p, c, rfl, -⟩ := id hk
 exact ⟨p, c, ⟨e0, e1, e2, e3, e4, e5, e6⟩, hk⟩
end Go.Proofs.YtmiidhgbdecdkaaGreat
namespace Go.Proofs.YtmiidhgbdecdkaaGreat
open Go.RowKit
set_option linter.unusedVariables false
set_option linter.unusedSimpArgs false
theorem kid_at {w : World} {p : Option Addr} {c : Nat} {l : List Nd} (h : Kids w anyH (.slice p l.length c) l) {v : World} (hb : Below w.heap.size w v) {j : Nat} (hj : j < l.length) : ∃ b o q d, p = some ⟨b, o, none⟩ ∧
  (v.cell? ⟨b, o + j * 7, none⟩ = some (.int .i64 l[j].kind) ∧ v.cell? ⟨b, o + j * 7 + 1, none⟩ = some (.string l[j].name) ∧ v.cell? ⟨b, o + j * 7 + 2, none⟩ = some (.int .u32 l[j].num) ∧ v.cell? ⟨b, o + j * 7 + 3, none⟩ = some (.int .i64 l[j].int_) ∧ v.cell? ⟨b, o + j * 7 + 4, none⟩ = some (.string l[j].key) ∧ v.cell? ⟨b, o + j * 7 + 5, none⟩ = some (.slice q l[j].args.length d) ∧ v.cell? ⟨b, o + j * 7 + 6, none⟩ = some (.int .i64 l[j].at_))
  ∧ Kids v anyH (.slice q l[j].args.length d) l[j].args := by
 obtain ⟨p', c', hv, -, hk⟩ := h
 simp only [Value.slice.injEq] at hv
 obtain ⟨rfl, -, -⟩ := hv
 rcases hk with hk | ⟨b, o, hp, hk⟩
 ·rw [hk] at hj; exact absurd hj (Nat.not_lt_zero _)
 ·obtain ⟨q, d, h1, h2⟩ := KA_seven (hk.below hb) hj
  exact ⟨b, o, q, d, hp, h1, h2⟩
end Go.Proofs.YtmiidhgbdecdkaaGreat
namespace Go.Proofs.YtmiidhgbdecdkaaGreat
open Go.RowKit
set_option linter.unusedVariables false
set_option linter.unusedSimpArgs false
def nodeCells (t : Nd) (s : Value) : List Value := [.int .i64 t.kind, .string t.name, .int .u32 t.num, .int .i64 t.int_, .string t.key, s, .int .i64 t.at_]
def cellsN (R : List (Nd × Value)) : List Value := R.flatMap fun r => nodeCells r.1 r.2
theorem cellsN_snoc (R : List (Nd × Value)) (t : Nd) (s : Value) : cellsN (R ++ [(t, s)]) = cellsN R ++ nodeCells t s := by simp [cellsN]
theorem cellsN_at : ∀ (R : List (Nd × Value)) (i k : Nat) (hi : i < R.length), k < 7 → (cellsN R)[i * 7 + k]? = (nodeCells R[i].1 R[i].2)[k]?
 | [], i, k, hi, hk => absurd hi (Nat.not_lt_zero _)
 | r :: R, 0, k, hi, hk => by
  have e : cellsN (r :: R) = nodeCells r.1 r.2 ++ cellsN R := by simp [cellsN]
  rw [e, Nat.zero_mul, Nat.zero_add, List.getElem?_append_left (by simp [nodeCells]; exact hk)]
  rfl
 | r :: R, i + 1, k, hi, hk => by
  have e : cellsN (r :: R) = nodeCells r.1 r.2 ++ cellsN R := by simp [cellsN]
  rw [e, List.getElem?_append_right (by simp [nodeCells]; omega), show (i + 1) * 7 + k - (nodeCells r.1 r.2).length = i * 7 + k by simp [nodeCells]; omega]
  exact cellsN_at R i k (by simpa using hi) hk
end Go.Proofs.YtmiidhgbdecdkaaGreat
namespace Go.Proofs.YtmiidhgbdecdkaaGreat
set_option linter.unusedVariables false
def V (p k : Nat) : Nat := if k < 2 ^ p then k else (2 ^ p + k % 2 ^ p) * 2 ^ (k / 2 ^ p - 1)
def rungOf (p : Nat) (L : Int) (mag : Nat) (place : Int) : Nat :=
 if mag = 0 then 0 else
 (max (place + mag.log2 - p) L - L).toNat * 2 ^ p + Ieee.Toward.even.cut false (mag <<< (place - max (place + mag.log2 - p) L).toNat) (max (place + mag.log2 - p) L - place).toNat
theorem nearest_eq (f : Ieee.Format) (neg : Bool) (mag : Nat) (place : Int) :
  f.nearest neg mag place = f.word neg (min (rungOf f.fractionBits f.leastPlace mag place) f.infRung) := by
 unfold Ieee.Format.nearest rungOf
 by_cases h : mag = 0
 ·rw [if_pos h, if_pos h, Nat.zero_min]
 ·rw [if_neg h, if_neg h]; rfl
def ng (a : Nat) : Bool := a / 2147483648 % 2 == 1
def rg (a : Nat) : Nat := a % 2147483648
def mv (a : Nat) : Nat := V 23 (rg a)
def sg (s : Bool) (m : Nat) : Int := if s then -(m : Int) else m
def sv (a : Nat) : Int := sg (ng a) (mv a)
def wd (s : Bool) (r : Nat) : Nat := if s then 2147483648 + min r 2139095040 else min r 2139095040
def R (n : Nat) : Nat := rungOf 23 (-149) n (-149)
theorem word_wd (s : Bool) (r : Nat) : Ieee.single.word s (min r Ieee.single.infRung) = wd s r := rfl
end Go.Proofs.YtmiidhgbdecdkaaGreat
namespace Go.Proofs.YtmiidhgbdecdkaaGreat
set_option linter.unusedVariables false
def ffrom (n : Int) : Int := (Ieee.single.nearest (decide (n < 0)) n.natAbs 0 : Nat)
def fneg (a : Int) : Int := canon (if 2147483648 ≤ a then a - 2147483648 else a + 2147483648)
theorem rg_wd (s : Bool) (r : Nat) : rg (wd s r) = min r 2139095040 := by
 unfold rg wd; split <;> omega
theorem write_num (d : Ieee.Datum) (h : d.isNaN = false) : rg (Ieee.single.write d) ≤ 2139095040 := by
 cases d with
 | number s m e => show rg (Ieee.single.nearest s m e) ≤ _; rw [nearest_eq, word_wd, rg_wd]; omega
 | infinity s => show rg (wd s 2139095040) ≤ _; rw [rg_wd]; omega
 | nan s t => simp [Ieee.Datum.isNaN] at h
theorem nan_nat (r : Nat) : nan (r : Int) = decide (2139095040 < rg r) := by unfold nan rg; rw [decide_eq_decide]; omega
theorem canon_num {r : Nat} (h : rg r ≤ 2139095040) : canon (r : Int) = r := by
 unfold canon; rw [nan_nat]; simp; omega
section
variable {P : Program} (w : World)
end
end Go.Proofs.YtmiidhgbdecdkaaGreat
