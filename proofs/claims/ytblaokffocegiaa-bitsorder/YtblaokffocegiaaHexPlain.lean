import Derived.WalkKit
import Derived.WalkSpells
/- Plain facts on digits and texts: no program is in sight. -/
namespace Go.Proofs.Ytblaokffocegiaa
open Go.RowKit
set_option linter.unusedVariables false

/-- the sixteen digits -/
abbrev hexD : ByteArray := { data := #[48, 49, 50, 51, 52, 53, 54, 55, 56, 57, 97, 98, 99, 100, 101, 102] }
def dgN (n : Nat) : UInt8 := if n < 10 then UInt8.ofNat (48 + n) else UInt8.ofNat (87 + n)
theorem hexD_get : ∀ (n : Nat) (h : n < ByteArray.size { data := #[48, 49, 50, 51, 52, 53, 54, 55, 56, 57, 97, 98, 99, 100, 101, 102] }),
    ({ data := #[48, 49, 50, 51, 52, 53, 54, 55, 56, 57, 97, 98, 99, 100, 101, 102] } : ByteArray)[n]'h = dgN n := by
  intro n h
  have h' : n < 16 := h
  revert h
  revert n
  decide
theorem dgN_toNat (n : Nat) (h : n < 16) : ((dgN n).toNat : Int) = if n < 10 then 48 + (n : Int) else 87 + (n : Int) := by
  revert n; decide
def low : Nat → Int → List UInt8
  | 0, _ => []
  | k + 1, a => dgN (a / 16 ^ k % 16).toNat :: low k a
theorem low_len (k : Nat) (a : Int) : (low k a).length = k := by
  induction k with
  | zero => rfl
  | succ k ih => simp [low, ih]
def hexB (a : Int) : ByteArray := ⟨#[dgN (a / 268435456 % 16).toNat, dgN (a / 16777216 % 16).toNat, dgN (a / 1048576 % 16).toNat, dgN (a / 65536 % 16).toNat,
  dgN (a / 4096 % 16).toNat, dgN (a / 256 % 16).toNat, dgN (a / 16 % 16).toNat, dgN (a % 16).toNat]⟩
theorem low_8 (a : Int) : (⟨(low 8 a).toArray⟩ : ByteArray) = hexB a := by simp [low, hexB]
theorem hexB_size (a : Int) : (hexB a).size = 8 := rfl
theorem extract_one (n : Nat) (h : n < 16) : hexD.extract n (n + 1) = ⟨#[dgN n]⟩ := by
  revert n; decide
theorem add_low (k : Nat) (a : Int) (x : Int) (hx : a / 16 ^ k = x) : (⟨#[dgN (x % 16).toNat]⟩ : ByteArray) ++ ⟨(low k a).toArray⟩ = ⟨(low (k + 1) a).toArray⟩ := by
  have := ByteArray.mk_append_mk [dgN (x % 16).toNat] (low k a)
  rw [this]; simp [low, hx]
theorem div_pow_succ (a : Int) (k : Nat) (x : Int) (hx : a / 16 ^ k = x) : a / 16 ^ (k + 1) = x / 16 := by
  rw [Int.pow_succ, ← hx, Int.ediv_ediv_of_nonneg (Int.pow_nonneg (by decide))]

def isHex (c : Int) : Bool := decide ((48 ≤ c ∧ c ≤ 57) ∨ (97 ≤ c ∧ c ≤ 102))
def digI (c : Int) : Int := if c ≤ 57 then c - 48 else c - 87
theorem isHex_iff (c : Int) : isHex c = true ↔ ((48 ≤ c ∧ c ≤ 57) ∨ (97 ≤ c ∧ c ≤ 102)) := by unfold isHex; simp
theorem isHex_not (c : Int) : isHex c = false ↔ ¬ ((48 ≤ c ∧ c ≤ 57) ∨ (97 ≤ c ∧ c ≤ 102)) := by unfold isHex; simp
theorem digI_lo (c : Int) (h : isHex c = true) : 0 ≤ digI c ∧ digI c < 16 := by
  rw [isHex_iff] at h; unfold digI; split <;> omega
/-- what a list of digits counts -/
def valL (l : List UInt8) : Int := l.foldl (fun n c => n * 16 + digI (c.toNat : Int)) 0
def goodL (l : List UInt8) : Bool := l.length == 8 && l.all fun c => isHex (c.toNat : Int)
theorem valL_snoc (l : List UInt8) (c : UInt8) : valL (l ++ [c]) = valL l * 16 + digI (c.toNat : Int) := by simp [valL]
theorem valL_lo : ∀ (n : Nat) (l : List UInt8), l.length = n → (∀ c ∈ l, isHex (c.toNat : Int) = true) → 0 ≤ valL l ∧ valL l < 16 ^ n := by
  intro n
  induction n with
  | zero => intro l h _; have : l = [] := List.length_eq_zero_iff.1 h; subst this; simp [valL]
  | succ n ih =>
    intro l h hx
    have hne : l ≠ [] := by intro e; subst e; simp at h
    obtain ⟨l', c, rfl⟩ : ∃ l' c, l = l' ++ [c] := ⟨l.dropLast, l.getLast hne, (List.dropLast_concat_getLast hne).symm⟩
    have := ih l' (by simpa using h) (fun d hd => hx d (by simp [hd]))
    have hc := digI_lo _ (hx c (by simp))
    rw [valL_snoc, Int.pow_succ]
    omega
theorem take_snoc (s : ByteArray) (k : Nat) (h : k < s.size) : s.data.toList.take (k + 1) = s.data.toList.take k ++ [s[k]] := by
  rw [List.take_succ_eq_append_getElem (by simpa using h)]; rfl
theorem mem_of_at (s : ByteArray) (k : Nat) (h : k < s.size) : s[k] ∈ s.data.toList := by
  have : s.data.toList[k]'(by simpa using h) ∈ s.data.toList := List.getElem_mem _
  exact this
/-- what a text is read as -/
def rdv (l : List UInt8) : Int := if goodL l then valL l else 0
theorem rdv_yes (l : List UInt8) (h : goodL l = true) : rdv l = valL l := by unfold rdv; simp [h]
theorem rdv_no (l : List UInt8) (h : goodL l = false) : rdv l = 0 := by unfold rdv; simp [h]
theorem goodL_of (l : List UInt8) (h : l.length = 8) (ha : ∀ c ∈ l, isHex (c.toNat : Int) = true) : goodL l = true := by
  unfold goodL; simp [h]; exact ha
theorem goodL_len (l : List UInt8) (h : ¬ l.length = 8) : goodL l = false := by unfold goodL; simp [h]
theorem goodL_bad (l : List UInt8) (c : UInt8) (hc : c ∈ l) (h : isHex (c.toNat : Int) = false) : goodL l = false := by
  unfold goodL
  rw [Bool.and_eq_false_iff]; right
  rw [List.all_eq_false]; exact ⟨c, hc, by simp [h]⟩
theorem goodL_all (l : List UInt8) (h : goodL l = true) : l.length = 8 ∧ ∀ c ∈ l, isHex (c.toNat : Int) = true := by
  unfold goodL at h; simpa using h
theorem rdv_lo (l : List UInt8) : 0 ≤ rdv l ∧ rdv l < 4294967296 := by
  cases h : goodL l
  · rw [rdv_no l h]; omega
  · obtain ⟨h8, ha⟩ := goodL_all l h
    have := valL_lo 8 l h8 ha
    rw [rdv_yes l h]; simpa using this
/-- where a sign stands among the first k digits, or -1 -/
def atI (c : Int) (k : Nat) : Int := if isHex c = true ∧ digI c < k then digI c else -1
theorem atI_hit (c : Int) (k : Nat) (hk : k < 16) (h : ((dgN k).toNat : Int) = c) : atI c (k + 1) = k := by
  rw [dgN_toNat k hk] at h
  have hx : isHex c = true := by rw [isHex_iff]; split at h <;> omega
  have hd : digI c = k := by unfold digI; split at h <;> split <;> omega
  unfold atI; rw [if_pos ⟨hx, by omega⟩, hd]
theorem atI_miss (c : Int) (k : Nat) (hk : k < 16) (h : ((dgN k).toNat : Int) ≠ c) : atI c (k + 1) = atI c k := by
  rw [dgN_toNat k hk] at h
  have hd : isHex c = true → digI c ≠ k := by
    intro hx hd
    rw [isHex_iff] at hx
    unfold digI at hd
    split at h <;> split at hd <;> omega
  unfold atI
  by_cases hx : isHex c = true
  · have := hd hx
    by_cases hl : digI c < k
    · rw [if_pos ⟨hx, by omega⟩, if_pos ⟨hx, hl⟩]
    · rw [if_neg (by omega), if_neg (by omega)]
  · simp [hx]
theorem atI_16_yes (c : Int) (h : isHex c = true) : atI c 16 = digI c := by
  have := digI_lo c h; unfold atI; rw [if_pos ⟨h, by omega⟩]
theorem atI_16_no (c : Int) (h : isHex c = false) : atI c 16 = -1 := by unfold atI; simp [h]
theorem atI_0 (c : Int) : atI c 0 = -1 := by
  unfold atI; rw [if_neg]; rintro ⟨h, g⟩; have := digI_lo c h; omega

end Go.Proofs.Ytblaokffocegiaa
