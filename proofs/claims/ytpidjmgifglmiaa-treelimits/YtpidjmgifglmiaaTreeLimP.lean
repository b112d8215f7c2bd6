import Derived.Test.YtpidjmgifglmiaaTreeCheck
/- The trees of TreeLimits, plainly. -/
namespace Go.Proofs.Ytpidjmgifglmiaa
open Go.RowKit
set_option linter.unusedVariables false
set_option linter.unusedSimpArgs false

/-- Nodes in one another. -/
def chn : Nat → Nd
  | 0 => ⟨1, ⟨#[97]⟩, 0, 0, ⟨#[]⟩, [], 0⟩
  | k + 1 => ⟨1, ⟨#[98]⟩, 0, 0, ⟨#[]⟩, [chn k], 0⟩
theorem chn_cnt : ∀ k, cnt (chn k) = k + 1
  | 0 => by show 1 + cntL [] = 1; rw [cntL_nil]
  | k + 1 => by show 1 + cntL [chn k] = k + 1 + 1; rw [cntL_one, chn_cnt k]; omega
theorem chn_dep : ∀ k, dep (chn k) = k + 1
  | 0 => by show depL [] + 1 = 1; rw [depL_nil]
  | k + 1 => by show depL [chn k] + 1 = k + 1 + 1; rw [depL_one, chn_dep k]
theorem chn_ok : ∀ k, ok1 (chn k)
  | 0 => ⟨⟨by decide, by decide, by decide, by decide⟩, okL_nil⟩
  | k + 1 => ⟨⟨(by show (1 : Nat) ≤ _; omega), (by show (0 : Nat) ≤ _; omega), (by show (0 : Int) ≤ 0; omega), (by show (0 : Int) < _; omega)⟩, (okL_cons _ _).2 ⟨chn_ok k, okL_nil⟩⟩
theorem nm_a : nameP ⟨#[97]⟩ = true := by kernel_rfl
theorem nm_b : nameP ⟨#[98]⟩ = true := by kernel_rfl
theorem nm_c : nameP ⟨#[99]⟩ = true := by kernel_rfl
theorem e_empty : (⟨#[]⟩ : ByteArray).toList.isEmpty = true := by kernel_rfl
/-- A call without more. -/
theorem judge_call {t : Nd} (u : Option Nd) (h1 : t.kind = 1) (h2 : nameP t.name = true) (h3 : t.num = 0) (h4 : t.int_ = 0) (h5 : t.key = ⟨#[]⟩) (h6 : t.name.size ≤ 64) : judgeP t u = 0 := by
  have hk : kindP t = true := by
    unfold kindP novP
    rw [if_pos h1, h2, h3, h4]
    rfl
  have hs : standsP t.kind u = true := by
    unfold standsP
    rw [h1]
    cases u <;> rfl
  have hy : keyP t.key u = true := by
    unfold keyP
    rw [h5]
    cases u
    · exact e_empty
    · simp only; rw [e_empty]; rfl
  unfold judgeP
  rw [if_neg (by rw [h5]; intro h; rcases h with h | h; · omega
                 · exact absurd h (by decide)), hy, hk, hs]
  rfl
theorem judge_chn (k : Nat) (u : Option Nd) : judgeP (chn k) u = 0 := by
  cases k with
  | zero => exact judge_call u rfl nm_a rfl rfl rfl (by decide)
  | succ k => exact judge_call u rfl nm_b rfl rfl rfl (by show (1 : Nat) ≤ 64; omega)
theorem wk_ok {t : Nd} {u : Option Nd} (h : judgeP t u = 0) (d s : Int) : wk gCheck t d u s = wkL gCheck t.args (d + 1) (some t) 0 := by
  unfold wk
  rw [show gCheck s t d u = (judgeP t u == 0, judgeP t u) from rfl, h]
  rfl
theorem wk_chn : ∀ (k : Nat) (d : Int) (u : Option Nd) (s : Int), wk gCheck (chn k) d u s = (true, 0)
  | 0, d, u, s => by
    rw [wk_ok (judge_chn 0 u)]
    show wkL gCheck [] (d + 1) (some (chn 0)) 0 = (true, 0)
    rw [wkL_nil]
  | k + 1, d, u, s => by
    rw [wk_ok (judge_chn (k + 1) u)]
    show wkL gCheck [chn k] (d + 1) (some (chn (k + 1))) 0 = (true, 0)
    rw [wkL_one, wk_chn k]
theorem check_n : checkP (chn 63) = 0 := by
  have hm : measP (chn 63) = 0 := by unfold measP; rw [chn_dep, chn_cnt]; rfl
  unfold checkP
  rw [if_pos hm, wk_chn]
theorem check_deep : checkP (chn 64) = 81 := by
  have hm : measP (chn 64) = 81 := by unfold measP; rw [chn_dep]; rfl
  unfold checkP
  rw [hm]
  rfl

/-- Whole numbers. -/
def leaf (i : Int) : Nd := ⟨3, ⟨#[]⟩, 0, i, ⟨#[]⟩, [], 0⟩
def lvs (k : Nat) : List Nd := (List.range k).map fun (i : Nat) => leaf ((i : Int) + 1)
theorem lvs_len (k : Nat) : (lvs k).length = k := by simp [lvs]
theorem lvs_succ (k : Nat) : lvs (k + 1) = lvs k ++ [leaf ((k : Int) + 1)] := by simp [lvs, List.range_succ]
theorem lvs_zero : lvs 0 = [] := rfl
theorem judge_leaf (i : Int) (u : Option Nd) (h0 : -2147483647 ≤ i) (h1 : i ≤ 2147483647) : judgeP (leaf i) u = 0 := by
  have hk : kindP (leaf i) = true := by
    unfold kindP
    have k3 : (leaf i).kind = 3 := rfl
    rw [if_neg (by rw [k3]; decide), if_neg (by rw [k3]; decide), if_pos k3]
    show ((⟨#[]⟩ : ByteArray).toList.isEmpty && (0 : Int) == 0 && decide (-2147483647 ≤ i) && decide (i ≤ 2147483647) && ((0 : Nat) : Int) == 0) = true
    rw [e_empty, decide_eq_true h0, decide_eq_true h1]
    rfl
  have hs : standsP (leaf i).kind u = true := by
    unfold standsP
    cases u <;> rfl
  have hy : keyP (leaf i).key u = true := by
    unfold keyP
    cases u
    · exact e_empty
    · show ((⟨#[]⟩ : ByteArray).toList.isEmpty || nameP ⟨#[]⟩) = true
      rw [e_empty]; rfl
  unfold judgeP
  rw [if_neg (show ¬ (64 < (leaf i).name.size ∨ 64 < (leaf i).key.size) from (by show ¬ (64 < 0 ∨ 64 < 0); omega)), hy, hk, hs]
  rfl
/-- Nodes without arguments that may be. -/
def plainL (l : List Nd) : Prop := ∀ t ∈ l, t.args = [] ∧ (∀ u, judgeP t u = 0) ∧ ok1 t
theorem plain_wk : ∀ (l : List Nd) (d : Int) (u : Option Nd), plainL l → wkL gCheck l d u 0 = (true, 0)
  | [], d, u, _ => wkL_nil _ _ _ _
  | t :: r, d, u, h => by
    have e : wk gCheck t d u 0 = (true, 0) := by
      rw [wk_ok ((h t (by simp)).2.1 u), (h t (by simp)).1, wkL_nil]
    rw [wkL_cons, e, if_pos rfl]
    exact plain_wk r d u fun x hx => h x (by simp [hx])
theorem plain_cnt : ∀ (l : List Nd), plainL l → cntL l = l.length
  | [], _ => cntL_nil
  | t :: r, h => by
    rw [cntL_cons, plain_cnt r fun x hx => h x (by simp [hx])]
    unfold cnt
    rw [(h t (by simp)).1, cntL_nil, List.length_cons]
    omega
theorem plain_dep : ∀ (l : List Nd), plainL l → depL l ≤ 1
  | [], _ => by rw [depL_nil]; omega
  | t :: r, h => by
    have := plain_dep r fun x hx => h x (by simp [hx])
    rw [depL_cons]
    unfold dep
    rw [(h t (by simp)).1, depL_nil]
    omega
theorem plain_ok : ∀ (l : List Nd), plainL l → okL l
  | [], _ => okL_nil
  | t :: r, h => (okL_cons _ _).2 ⟨(h t (by simp)).2.2, plain_ok r fun x hx => h x (by simp [hx])⟩
theorem plain_leaf (i : Int) (h0 : -2147483647 ≤ i) (h1 : i ≤ 2147483647) : (leaf i).args = [] ∧ (∀ u, judgeP (leaf i) u = 0) ∧ ok1 (leaf i) :=
  ⟨rfl, fun u => judge_leaf i u h0 h1, ⟨(by show (0 : Nat) ≤ _; omega), (by show (0 : Nat) ≤ _; omega), (by show (0 : Int) ≤ 0; omega), (by show (0 : Int) < _; omega)⟩, okL_nil⟩
theorem plain_lvs (k : Nat) (hk : k ≤ 4095) : plainL (lvs k) := by
  intro t ht
  obtain ⟨i, hi, rfl⟩ := List.mem_map.1 ht
  have := List.mem_range.1 hi
  exact plain_leaf _ (by omega) (by omega)
def manyT (k : Nat) : Nd := ⟨1, ⟨#[99]⟩, 0, 0, ⟨#[]⟩, lvs k, 0⟩
def moreT (k : Nat) : Nd := ⟨1, ⟨#[99]⟩, 0, 0, ⟨#[]⟩, lvs k ++ [leaf 0], 0⟩
theorem plain_more {k : Nat} (h : k = 4095) : plainL (lvs k ++ [leaf 0]) := by
  intro t ht
  rcases List.mem_append.1 ht with h' | h'
  · exact plain_lvs k (by omega) t h'
  · simp at h'
    subst h'
    exact plain_leaf 0 (by decide) (by decide)
theorem many_cnt {k : Nat} (h : k = 4095) : cnt (manyT k) = 4096 := by
  show 1 + cntL (lvs k) = 4096
  rw [plain_cnt _ (plain_lvs k (by omega)), lvs_len]
  omega
theorem more_cnt {k : Nat} (h : k = 4095) : cnt (moreT k) = 4097 := by
  show 1 + cntL (lvs k ++ [leaf 0]) = 4097
  rw [plain_cnt _ (plain_more h), List.length_append, lvs_len]
  show 1 + (k + 1) = 4097
  omega
theorem many_ok {k : Nat} (h : k = 4095) : ok1 (manyT k) := ⟨⟨(by show (1 : Nat) ≤ _; omega), (by show (0 : Nat) ≤ _; omega), (by show (0 : Int) ≤ 0; omega), (by show (0 : Int) < _; omega)⟩, plain_ok _ (plain_lvs k (by omega))⟩
theorem more_ok {k : Nat} (h : k = 4095) : ok1 (moreT k) := ⟨⟨(by show (1 : Nat) ≤ _; omega), (by show (0 : Nat) ≤ _; omega), (by show (0 : Int) ≤ 0; omega), (by show (0 : Int) < _; omega)⟩, plain_ok _ (plain_more h)⟩
theorem check_many {k : Nat} (h : k = 4095) : checkP (manyT k) = 0 := by
  have hd : dep (manyT k) ≤ 2 := by show depL (lvs k) + 1 ≤ 2; have := plain_dep _ (plain_lvs k (by omega)); omega
  have hm : measP (manyT k) = 0 := by unfold measP; rw [if_neg (by omega), many_cnt h]; rfl
  unfold checkP
  rw [if_pos hm, wk_ok (judge_call none rfl nm_c rfl rfl rfl (by show (1 : Nat) ≤ 64; omega))]
  show (wkL gCheck (lvs k) (1 + 1) (some (manyT k)) 0).2 = 0
  rw [plain_wk _ _ _ (plain_lvs k (by omega))]
theorem check_more {k : Nat} (h : k = 4095) : checkP (moreT k) = 82 := by
  have hd : dep (moreT k) ≤ 2 := by show depL (lvs k ++ [leaf 0]) + 1 ≤ 2; have := plain_dep _ (plain_more h); omega
  have hm : measP (moreT k) = 82 := by unfold measP; rw [if_neg (by omega), more_cnt h]; rfl
  unfold checkP
  rw [hm]
  rfl

/-- So many letters z. -/
def zs (k : Nat) : ByteArray := ⟨(List.replicate k 122).toArray⟩
theorem zs_size (k : Nat) : (zs k).size = k := by simp [zs, ByteArray.size]
def nmT (s : ByteArray) : Nd := ⟨1, s, 0, 0, ⟨#[]⟩, [], 0⟩
theorem nm_cnt (s : ByteArray) : cnt (nmT s) = 1 := by show 1 + cntL [] = 1; rw [cntL_nil]
theorem nm_dep (s : ByteArray) : dep (nmT s) = 1 := by show depL [] + 1 = 1; rw [depL_nil]
theorem nm_ok (k : Nat) (h : k ≤ 65) : ok1 (nmT (zs k)) := ⟨⟨by show (zs k).size ≤ _; rw [zs_size]; omega, (by show (0 : Nat) ≤ _; omega), (by show (0 : Int) ≤ 0; omega), (by show (0 : Int) < _; omega)⟩, okL_nil⟩
theorem nm_z : nameP (zs 64) = true := by kernel_rfl
theorem check_long : checkP (nmT (zs 64)) = 0 := by
  have hm : measP (nmT (zs 64)) = 0 := by unfold measP; rw [nm_dep, nm_cnt]; rfl
  unfold checkP
  rw [if_pos hm, wk_ok (judge_call none rfl nm_z rfl rfl rfl (by show (zs 64).size ≤ 64; rw [zs_size]; omega))]
  show (wkL gCheck [] (1 + 1) _ 0).2 = 0
  rw [wkL_nil]
theorem check_longer : checkP (nmT (zs 65)) = 2 := by
  have hm : measP (nmT (zs 65)) = 0 := by unfold measP; rw [nm_dep, nm_cnt]; rfl
  have hj : judgeP (nmT (zs 65)) none = 2 := by
    unfold judgeP
    rw [if_pos (.inl (by show 64 < (zs 65).size; rw [zs_size]; omega))]
  unfold checkP
  rw [if_pos hm]
  unfold wk
  rw [show gCheck 0 (nmT (zs 65)) 1 none = (judgeP (nmT (zs 65)) none == 0, judgeP (nmT (zs 65)) none) from rfl, hj]
  rfl

end Go.Proofs.Ytpidjmgifglmiaa
