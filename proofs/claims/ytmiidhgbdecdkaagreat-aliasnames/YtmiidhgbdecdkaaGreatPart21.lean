import Derived.Test.YtmiidhgbdecdkaaGreatPart19
import Derived.Test.YtmiidhgbdecdkaaGreatPart8
import Derived.Test.YtmiidhgbdecdkaaGreatPart4
import Derived.Test.YtmiidhgbdecdkaaGreatPart20
namespace Go.Proofs.YtmiidhgbdecdkaaGreat
set_option linter.unusedVariables false
set_option linter.unusedSimpArgs false
def jdL : Option Nd → List Nd → Prop
 | _, [] => True
 | u, ⟨k, n, x, i, y, l, a⟩ :: r => judgeP ⟨k, n, x, i, y, l, a⟩ u = 0 ∧ jdL (some ⟨k, n, x, i, y, l, a⟩) l ∧ jdL u r
def jd1 (u : Option Nd) (t : Nd) : Prop := judgeP t u = 0 ∧ jdL (some t) t.args
theorem jdL_nil (u : Option Nd) : jdL u [] := by simp [jdL]
theorem jdL_cons (u : Option Nd) (t : Nd) (r : List Nd) : jdL u (t :: r) ↔ jd1 u t ∧ jdL u r := by cases t; simp [jdL, jd1, and_assoc]
theorem wkL_jd : ∀ (l : List Nd) (d : Int) (u : Option Nd) (s : Int), (wkL gCheck l d u s).1 = true ↔ jdL u l := by
 apply forest (P := fun l => ∀ (d : Int) (u : Option Nd) (s : Int), (wkL gCheck l d u s).1 = true ↔ jdL u l)
 ·intro d u s
  rw [wkL_nil]
  simp [jdL_nil]
 ·intro t r h1 h2 d u s
  have hw : (wk gCheck t d u s).1 = true ↔ jd1 u t := by
   unfold wk jd1
   by_cases c : judgeP t u = 0
   ·rw [if_pos (by unfold gCheck; simpa using c), h1]
    simp [c]
   ·rw [if_neg (by unfold gCheck; simpa using c)]
    simp [c]
  rw [wkL_cons, jdL_cons]
  by_cases c : (wk gCheck t d u s).1 = true
  ·rw [if_pos c, h2]
   simp [hw.1 c]
  ·rw [if_neg c]
   have : ¬ jd1 u t := fun h => c (hw.2 h)
   simp [this]
theorem wk_jd (t : Nd) (d : Int) (u : Option Nd) (s : Int) : (wk gCheck t d u s).1 = true ↔ jd1 u t := by
 have := wkL_jd [t] d u s
 rw [wkL_one, jdL_cons] at this
 rw [this]
 simp [jdL_nil]
theorem check_iff (t : Nd) : checkP t = 0 ↔ measP t = 0 ∧ jd1 none t := by
 unfold checkP
 by_cases c : measP t = 0
 ·rw [if_pos c, ← wk_jd t 1 none 0, wk_check]
  simp [c]
 ·rw [if_neg c]
  simp [c]
theorem meas_iff (t : Nd) : measP t = 0 ↔ dep t ≤ 64 ∧ cnt t ≤ 4096 := by
 unfold measP
 by_cases h1 : 64 < dep t
 ·rw [if_pos h1]
  exact ⟨fun h => absurd h (by decide), fun h => by omega⟩
 ·rw [if_neg h1]
  by_cases h2 : 4096 < cnt t
  ·rw [if_pos h2]
   exact ⟨fun h => absurd h (by decide), fun h => by omega⟩
  ·rw [if_neg h2]
   exact ⟨fun _ => by omega, fun _ => rfl⟩
theorem judge_iff (t : Nd) (u : Option Nd) : judgeP t u = 0 ↔ (t.name.size ≤ 64 ∧ t.key.size ≤ 64) ∧ keyP t.key u = true ∧ kindP t = true ∧ standsP t.kind u = true := by
 unfold judgeP
 by_cases c : 64 < t.name.size ∨ 64 < t.key.size
 ·rw [if_pos c]
  exact ⟨fun h => absurd h (by decide), fun h => by omega⟩
 ·rw [if_neg c]
  by_cases d : (keyP t.key u && kindP t && standsP t.kind u) = true
  ·rw [if_pos d]
   rw [Bool.and_eq_true, Bool.and_eq_true] at d
   exact ⟨fun _ => ⟨by omega, d.1.1, d.1.2, d.2⟩, fun _ => rfl⟩
  ·rw [if_neg d]
   exact ⟨fun h => absurd h (by decide), fun h => absurd (by rw [h.2.1, h.2.2.1, h.2.2.2]; rfl) d⟩
theorem binds_two {l : List Nd} (h : bindsP l = true) : ∃ v r, l = [v, r] ∧ v.kind ≠ 6 ∧ (r.kind = 6 ∨ r.kind = 1) ∧ v.key = ⟨#[]⟩ ∧ r.key = ⟨#[]⟩ := by
 have he : ∀ k : ByteArray, k.toList.isEmpty = true → k = ⟨#[]⟩ := fun k hk => key_empty.1 (by simpa using hk)
 match l, h with
 | [v, r], h =>
  unfold bindsP at h
  simp only [Bool.and_eq_true, Bool.or_eq_true, bne_iff_ne, beq_iff_eq] at h
  exact ⟨v, r, rfl, h.1.1.1, h.1.1.2, he _ h.1.2, he _ h.2⟩
theorem kind_let {t : Nd} (h : kindP t = true) (hk : t.kind = 6) : bindsP t.args = true := by
 unfold kindP at h
 rw [if_neg (by omega), if_neg (by omega), if_neg (by omega), if_neg (by omega), if_neg (by omega), if_pos hk] at h
 rw [Bool.and_eq_true] at h
 exact h.2
theorem jd_let : ∀ (N : Nat) (t : Nd) (u : Option Nd), jd1 u t → LetOK N t
 | 0, t, u, h => trivial
 | N + 1, t, u, h => by
  unfold LetOK
  intro hk
  obtain ⟨v, r, hl, -⟩ := binds_two (kind_let ((judge_iff t u).1 h.1).2.2.1 hk)
  have hj := h.2
  rw [hl, jdL_cons, jdL_cons] at hj
  rw [hl]
  exact ⟨rfl, jd_let N r (some t) hj.2.1⟩
theorem kind_whole {t : Nd} (h : kindP t = true) (hk : t.kind = 3) : -2147483648 ≤ t.int_ ∧ t.int_ ≤ 2147483647 := by
 unfold kindP at h
 rw [if_neg (by omega), if_neg (by omega), if_pos hk] at h
 simp only [Bool.and_eq_true, decide_eq_true_eq] at h
 omega
theorem jd_intL : ∀ (l : List Nd) (u : Option Nd), jdL u l → intL l := by
 apply forest (P := fun l => ∀ (u : Option Nd), jdL u l → intL l)
 ·intro u _
  exact intL_nil
 ·intro t r h1 h2 u h
  rw [jdL_cons] at h
  rw [intL_cons]
  exact ⟨⟨kind_whole ((judge_iff t u).1 h.1.1).2.2.1, h1 _ h.1.2⟩, h2 u h.2⟩
theorem check_facts {t : Nd} (h : checkP t = 0) : dep t ≤ 64 ∧ cnt t ≤ 4096 ∧ LetOK (dep t) t ∧ int1 t := by
 obtain ⟨h1, h2⟩ := (check_iff t).1 h
 obtain ⟨h3, h4⟩ := (meas_iff t).1 h1
 refine ⟨h3, h4, jd_let _ t none h2, kind_whole ((judge_iff t none).1 h2.1).2.2.1, jd_intL _ _ h2.2⟩
abbrev Q1 := Int → ByteArray → Int → Int → Prop
abbrev Q2 := ByteArray → Prop
def alL (q1 : Q1) (q2 : Q2) : List Nd → Prop
 | [] => True
 | ⟨k, n, x, i, y, l, _⟩ :: r => (q1 k n x i ∧ q2 y) ∧ alL q1 q2 l ∧ alL q1 q2 r
def al1 (q1 : Q1) (q2 : Q2) (t : Nd) : Prop := (q1 t.kind t.name t.num t.int_ ∧ q2 t.key) ∧ alL q1 q2 t.args
section
variable {q1 : Q1} {q2 : Q2}
theorem alL_nil : alL q1 q2 [] := by simp [alL]
theorem alL_cons (t : Nd) (r : List Nd) : alL q1 q2 (t :: r) ↔ al1 q1 q2 t ∧ alL q1 q2 r := by cases t; simp [alL, al1, and_assoc]
theorem alL_mem : ∀ {l : List Nd}, alL q1 q2 l ↔ ∀ x ∈ l, al1 q1 q2 x
 | [] => by simp [alL_nil]
 | t :: r => by rw [alL_cons, alL_mem (l := r)]; simp
theorem al_key {t : Nd} {y : ByteArray} (h : al1 q1 q2 t) (hy : q2 y) : al1 q1 q2 (keyN t y) := ⟨⟨h.1.1, hy⟩, h.2⟩
theorem al_args {t : Nd} {l : List Nd} (h : al1 q1 q2 t) (hl : alL q1 q2 l) : al1 q1 q2 (argsN t l) := ⟨h.1, hl⟩
theorem al_placeL (a : Int) : ∀ l : List Nd, alL q1 q2 l → alL q1 q2 (placeL a l) := by
 apply forest (P := fun l => alL q1 q2 l → alL q1 q2 (placeL a l))
 ·intro h
  rw [placeL_nil]; exact h
 ·intro t r h1 h2 h
  rw [alL_cons] at h
  rw [placeL_cons, alL_cons]
  exact ⟨⟨h.1.1, h1 h.1.2⟩, h2 h.2⟩
theorem al_place {t : Nd} (a : Int) (h : al1 q1 q2 t) : al1 q1 q2 (placeN t a) := ⟨h.1, al_placeL a _ h.2⟩
theorem look_mem {e : Env} {nm : ByteArray} {v : Nd} (h : lookE e nm = some v) : ∃ p ∈ e, p.2 = v := by
 unfold lookE at h
 cases hf : e.find? (fun p => sameB p.1 nm) with
 | none => rw [hf] at h; cases h
 | some p =>
  rw [hf] at h
  cases h
  exact ⟨p, List.mem_of_find?_eq_some hf, rfl⟩
theorem al_wrOne {e : Env} (he : ∀ p ∈ e, al1 q1 q2 p.2) {t : Nd} {l : List Nd} (h : al1 q1 q2 t) (hl : alL q1 q2 l) : al1 q1 q2 (wrOne e t l) := by
 unfold wrOne
 by_cases c : (t.kind == 4) = true
 ·rw [if_pos c]
  cases hk : lookE e t.name with
  | none => exact al_args h hl
  | some v =>
   obtain ⟨p, hp, rfl⟩ := look_mem hk
   exact al_key (al_place _ (he p hp)) h.1.2
 ·rw [if_neg c]
  exact al_args h hl
theorem al_wrL {e : Env} (he : ∀ p ∈ e, al1 q1 q2 p.2) : ∀ l : List Nd, alL q1 q2 l → alL q1 q2 (wrL e l) := by
 apply forest (P := fun l => alL q1 q2 l → alL q1 q2 (wrL e l))
 ·intro h
  rw [wrL_nil]; exact h
 ·intro t r h1 h2 h
  rw [alL_cons] at h
  rw [wrL_cons, alL_cons]
  exact ⟨al_wrOne he h.1 (h1 h.1.2), h2 h.2⟩
theorem al_wr {e : Env} (he : ∀ p ∈ e, al1 q1 q2 p.2) {t : Nd} (h : al1 q1 q2 t) : al1 q1 q2 (wrN e t) := al_wrOne he h (al_wrL he _ h.2)
theorem al_fold : ∀ (l : List (ByteArray × Nd)) (e : Env), (∀ p ∈ e, al1 q1 q2 p.2) → (∀ p ∈ l, al1 q1 q2 p.2) → ∀ p ∈ l.foldl (fun e p => (p.1, wrN e p.2) :: e) e, al1 q1 q2 p.2
 | [], e, he, _ => he
 | x :: l, e, he, hl => by
  rw [List.foldl_cons]
  refine al_fold l _ (fun p hp => ?_) fun p hp => hl p (List.mem_cons_of_mem _ hp)
  rcases List.mem_cons.1 hp with rfl | hp
  ·exact al_wr he (hl x List.mem_cons_self)
  ·exact he p hp
theorem al_env {l : List (ByteArray × Nd)} (h : ∀ p ∈ l, al1 q1 q2 p.2) : ∀ p ∈ envA l, al1 q1 q2 p.2 := al_fold l [] (fun p hp => by cases hp) h
theorem al_ix {l : List Nd} (h : alL q1 q2 l) (h0 : al1 q1 q2 noneN) (i : Nat) : al1 q1 q2 (ix l i) := by
 unfold ix
 rw [List.getD_eq_getElem?_getD]
 cases hi : l[i]? with
 | none => exact h0
 | some x => exact alL_mem.1 h x (List.mem_of_getElem? hi)
theorem al_lets (h0 : al1 q1 q2 noneN) : ∀ (n : Nat) (t : Nd), al1 q1 q2 t → (∀ p ∈ (letsF n t).1, al1 q1 q2 p.2) ∧ al1 q1 q2 (letsF n t).2
 | 0, t, h => ⟨fun p hp => by simp [letsF] at hp, h⟩
 | n + 1, t, h => by
  rw [letsF]
  by_cases c : (t.kind == 6) = true
  ·rw [if_pos c]
   have := al_lets h0 n (ix t.args 1) (al_ix h.2 h0 1)
   refine ⟨fun p hp => ?_, this.2⟩
   rcases List.mem_cons.1 hp with rfl | hp
   ·exact al_ix h.2 h0 0
   ·exact this.1 p hp
  ·rw [if_neg c]
   exact ⟨fun p hp => by simp at hp, h⟩
theorem al_written (h0 : al1 q1 q2 noneN) {t : Nd} (h : al1 q1 q2 t) : al1 q1 q2 (writtenA t) := by
 obtain ⟨h1, h2⟩ := al_lets h0 (dep t) t h
 exact al_wr (al_env h1) h2
theorem al_set : ∀ {l : List Nd} {k : Nat} {x : Nd}, alL q1 q2 l → al1 q1 q2 x → alL q1 q2 (l.set k x) := fun {l k x} h hx => alL_mem.2 fun y hy => by
 rcases List.mem_or_eq_of_mem_set hy with hy | rfl
 ·exact alL_mem.1 h y hy
 ·exact hx
theorem al_fill (hz : q2 ⟨#[]⟩) : ∀ (w : List Nat) (l a : List Nd), alL q1 q2 l → alL q1 q2 a → alL q1 q2 (fillA w l a)
 | [], l, a, _, ha => by simpa [fillA] using ha
 | k :: w, [], a, _, ha => by simpa [fillA] using ha
 | k :: w, x :: l, a, hl, ha => by
  rw [fillA]
  rw [alL_cons] at hl
  exact al_fill hz w l _ hl.2 (al_set ha (al_key hl.1 hz))
theorem al_drop {l : List Nd} (h : alL q1 q2 l) (k : Nat) : alL q1 q2 (l.drop k) := alL_mem.2 fun y hy => alL_mem.1 h y (List.mem_of_mem_drop hy)
theorem al_take {l : List Nd} (h : alL q1 q2 l) (k : Nat) : alL q1 q2 (l.take k) := alL_mem.2 fun y hy => alL_mem.1 h y (List.mem_of_mem_take hy)
end
def madeNm : List ByteArray := [⟨#[99, 104, 97, 105, 110]⟩, ⟨#[115, 99, 97, 108, 101]⟩, ⟨#[115, 99, 97, 108, 101, 95, 98, 121, 95, 115, 99, 104, 101, 100, 117, 108, 101]⟩, ⟨#[109, 97, 115, 107, 101, 100]⟩, ⟨#[97, 100, 100, 95, 100, 101, 99, 97, 121, 101, 100, 95, 119, 101, 105, 103, 104, 116, 115]⟩, ⟨#[116, 114, 97, 99, 101]⟩, ⟨#[115, 99, 97, 108, 101, 95, 98, 121, 95, 97, 100, 97, 109]⟩, ⟨#[115, 99, 97, 108, 101, 95, 98, 121, 95, 97, 109, 115, 103, 114, 97, 100]⟩, ⟨#[115, 99, 97, 108, 101, 95, 98, 121, 95, 98, 101, 108, 105, 101, 102]⟩, ⟨#[115, 99, 97, 108, 101, 95, 98, 121, 95, 121, 111, 103, 105]⟩, ⟨#[115, 99, 97, 108, 101, 95, 98, 121, 95, 97, 100, 97, 100, 101, 108, 116, 97]⟩, ⟨#[115, 99, 97, 108, 101, 95, 98, 121, 95, 97, 100, 97, 109, 97, 120]⟩, ⟨#[115, 99, 97, 108, 101, 95, 98, 121, 95, 110, 111, 118, 111, 103, 114, 97, 100]⟩, ⟨#[115, 99, 97, 108, 101, 95, 98, 121, 95, 111, 112, 116, 105, 109, 105, 115, 116, 105, 99, 95, 103, 114, 97, 100, 105, 101, 110, 116]⟩, ⟨#[97, 100, 97, 112, 116, 105, 118, 101, 95, 103, 114, 97, 100, 95, 99, 108, 105, 112]⟩, ⟨#[115, 99, 97, 108, 101, 95, 98, 121, 95, 114, 115, 115]⟩, ⟨#[115, 99, 97, 108, 101, 95, 98, 121, 95, 114, 109, 115]⟩, ⟨#[115, 99, 97, 108, 101, 95, 98, 121, 95, 108, 105, 111, 110]⟩, ⟨#[115, 99, 97, 108, 101, 95, 98, 121, 95, 116, 114, 117, 115, 116, 95, 114, 97, 116, 105, 111]⟩, ⟨#[97, 108, 108]⟩]
structure AlH (p1 : Q1) (p2 : Q2) (q1 : Q1) (q2 : Q2) : Prop where
 plain : ∀ k n x i, p1 k n x i → (k = 1 → ∀ r ∈ rowsA, r.name ≠ n) → q1 k n x i
 key : ∀ y, p2 y → q2 y
 z : q2 ⟨#[]⟩
 none : q1 0 ⟨#[]⟩ 0 0
 num : ∀ x : Int, 0 ≤ x → x < 4294967296 → q1 2 ⟨#[]⟩ x 0
 fl : q1 4 ⟨#[102, 97, 108, 115, 101]⟩ 0 0
 call : ∀ nm ∈ madeNm, q1 1 nm 0 0
 neg : ∀ k n x i, q1 k n x i → q1 2 ⟨#[]⟩ (fneg x) 0
 frm : ∀ k n x i, q1 k n x i → q1 2 ⟨#[]⟩ (fneg (ffrom i)) 0
section
variable {p1 : Q1} {p2 : Q2} {q1 : Q1} {q2 : Q2}
theorem AlH.n0 (h : AlH p1 p2 q1 q2) : al1 q1 q2 noneN := ⟨⟨h.none, h.z⟩, alL_nil⟩
theorem AlH.nn (h : AlH p1 p2 q1 q2) (x : Int) (h0 : 0 ≤ x) (h1 : x < 4294967296) : al1 q1 q2 (numN x) := ⟨⟨h.num x h0 h1, h.z⟩, alL_nil⟩
theorem AlH.nf (h : AlH p1 p2 q1 q2) : al1 q1 q2 (flagN ⟨#[102, 97, 108, 115, 101]⟩) := ⟨⟨h.fl, h.z⟩, alL_nil⟩
theorem AlH.made (h : AlH p1 p2 q1 q2) (a : Int) {nm : ByteArray} (hm : nm ∈ madeNm) {l : List Nd} (hl : alL q1 q2 l) : al1 q1 q2 (madeN a nm l) := ⟨⟨h.call nm hm, h.z⟩, hl⟩
theorem AlH.callN (h : AlH p1 p2 q1 q2) {nm : ByteArray} (hm : nm ∈ madeNm) {l : List Nd} (hl : alL q1 q2 l) : al1 q1 q2 (callA nm l) := ⟨⟨h.call nm hm, h.z⟩, hl⟩
theorem vals_al (h : AlH p1 p2 q1 q2) : ∀ r ∈ rowsA, alL q1 q2 r.vals := by
 intro r hr
 have ha : al1 q1 q2 (callA ⟨#[97, 108, 108]⟩ []) := h.callN (by simp [madeNm]) alL_nil
 simp only [rowsA, List.mem_cons, List.not_mem_nil, or_false] at hr
 rcases hr with rfl | rfl | rfl | rfl | rfl | rfl | rfl | rfl | rfl | rfl | rfl | rfl | rfl | rfl | rfl | rfl | rfl
 all_goals (repeat' (first | exact alL_nil | exact h.n0 | exact ha | exact h.nf | exact h.nn _ (by decide) (by decide) | refine (alL_cons _ _).2 ⟨?_, ?_⟩))
theorem rate_al (h : AlH p1 p2 q1 q2) (a : Int) {r : Nd} (hr : al1 q1 q2 r) : al1 q1 q2 (rateA a r) := by
 have hx : ∀ x : Int, q1 2 ⟨#[]⟩ x 0 → al1 q1 q2 (⟨2, ⟨#[]⟩, x, 0, ⟨#[]⟩, [], r.at_⟩ : Nd) := fun x hx => ⟨⟨hx, h.z⟩, alL_nil⟩
 unfold rateA
 by_cases c : (r.kind == 2) = true
 ·rw [if_pos c]
  exact h.made a (by simp [madeNm]) ((alL_cons _ _).2 ⟨hx _ (h.neg _ _ _ _ hr.1.1), alL_nil⟩)
 ·rw [if_neg c]
  by_cases d : (r.kind == 3) = true
  ·rw [if_pos d]
   exact h.made a (by simp [madeNm]) ((alL_cons _ _).2 ⟨hx _ (h.frm _ _ _ _ hr.1.1), alL_nil⟩)
  ·rw [if_neg d]
   exact h.made a (by simp [madeNm]) ((alL_cons _ _).2 ⟨h.made a (by simp [madeNm]) ((alL_cons _ _).2 ⟨hr, alL_nil⟩), (alL_cons _ _).2 ⟨h.made a (by simp [madeNm]) ((alL_cons _ _).2 ⟨al_place a (h.nn _ (by decide) (by decide)), alL_nil⟩), alL_nil⟩⟩)
theorem bec_al (h : AlH p1 p2 q1 q2) (nm : ByteArray) (a : Int) {l : List Nd} (hl : alL q1 q2 l) : al1 q1 q2 (becA nm a l) := by
 have hi : ∀ {c : Prop} [Decidable c] {x y : Nd}, al1 q1 q2 x → al1 q1 q2 y → al1 q1 q2 (if c then x else y) := fun {c} _ {x y} hx hy => by
  by_cases h : c
  ·rw [if_pos h]; exact hx
  ·rw [if_neg h]; exact hy
 have hx := al_ix hl h.n0
 have hd := al_drop hl
 have hM : ∀ {nm : ByteArray} {l : List Nd}, nm ∈ madeNm → alL q1 q2 l → al1 q1 q2 (madeN a nm l) := fun hm hl => h.made a hm hl
 have hC : ∀ {x : Nd} {l : List Nd}, al1 q1 q2 x → alL q1 q2 l → alL q1 q2 (x :: l) := fun hx hl => (alL_cons _ _).2 ⟨hx, hl⟩
 have hR := fun (r : Nd) (hr : al1 q1 q2 r) => rate_al h a hr
 have hdec : ∀ m w : Nd, al1 q1 q2 m → al1 q1 q2 w → al1 q1 q2 (decA a m w) := fun m w h1 h2 => hM (by simp [madeNm]) (hC h1 (hC (hM (by simp [madeNm]) (hC h2 alL_nil)) alL_nil))
 unfold becA
 repeat' (first | exact alL_nil | exact hx _ | exact hd _ | exact al_take (hd _) _ | exact hR _ (hx _) | exact hdec _ _ (hx _) (hx _) | exact al_place a h.nf | exact al_place a (h.nn _ (by decide) (by decide)) | exact al_place a (h.callN (by simp [madeNm]) (hC (h.nn _ (by decide) (by decide)) (hC (h.nn _ (by decide) (by decide)) (hC (h.nn _ (by decide) (by decide)) alL_nil)))) | refine hi ?_ ?_ | refine hC ?_ ?_ | refine hM (by simp [madeNm]) ?_)
theorem one_al (h : AlH p1 p2 q1 q2) {t : Nd} {l : List Nd} (ht : p1 t.kind t.name t.num t.int_ ∧ p2 t.key) (hl : alL q1 q2 l) : al1 q1 q2 (oneA t l) := by
 unfold oneA
 cases hf : findA t with
 | none =>
  refine ⟨⟨h.plain _ _ _ _ ht.1 fun hk r hr e => ?_, h.key _ ht.2⟩, hl⟩
  unfold findA at hf
  have hk : t.kind = 1 := hk
  rw [if_pos (by simpa using hk), List.find?_eq_none] at hf
  exact hf r hr (sameB_iff.2 e)
 | some r =>
  have hr : r ∈ rowsA := by
   unfold findA at hf
   by_cases hk : (t.kind == 1) = true
   ·rw [if_pos hk] at hf; exact List.mem_of_find?_eq_some hf
   ·rw [if_neg hk] at hf; cases hf
  refine al_key (bec_al h _ _ (al_fill h.z _ _ _ hl (alL_mem.2 fun x hx => ?_))) (h.key _ ht.2)
  obtain ⟨v, hv, rfl⟩ := List.mem_map.1 hx
  exact al_place _ (alL_mem.1 (vals_al h r hr) v hv)
theorem whole_alL (h : AlH p1 p2 q1 q2) : ∀ l : List Nd, alL p1 p2 l → alL q1 q2 (wholeL l) := by
 apply forest (P := fun l => alL p1 p2 l → alL q1 q2 (wholeL l))
 ·intro _
  rw [wholeL_nil]; exact alL_nil
 ·intro t r h1 h2 hh
  rw [alL_cons] at hh
  rw [wholeL_cons, alL_cons]
  exact ⟨one_al h hh.1.1 (h1 hh.1.2), h2 hh.2⟩
theorem whole_al (h : AlH p1 p2 q1 q2) {t : Nd} (ht : al1 p1 p2 t) : al1 q1 q2 (wholeN t) := one_al h ht.1 (whole_alL h _ ht.2)
end
def okQ1 : Q1 := fun _ n x _ => n.size ≤ 140737488351232 ∧ 0 ≤ x ∧ x < 4294967296
def okQ2 : Q2 := fun y => y.size ≤ 140737488351232
theorem okL_al : ∀ l : List Nd, okL l ↔ alL okQ1 okQ2 l := by
 apply forest (P := fun l => okL l ↔ alL okQ1 okQ2 l)
 ·simp [okL_nil, alL_nil]
 ·intro t r h1 h2
  rw [okL_cons, alL_cons, h2]
  unfold ok1 al1 okQ1 okQ2
  rw [h1]
  unfold okQ1 okQ2
  constructor
  ·rintro ⟨⟨⟨a, b, c, d⟩, e⟩, f⟩; exact ⟨⟨⟨⟨a, c, d⟩, b⟩, e⟩, f⟩
  ·rintro ⟨⟨⟨⟨a, c, d⟩, b⟩, e⟩, f⟩; exact ⟨⟨⟨a, b, c, d⟩, e⟩, f⟩
theorem ok_al (t : Nd) : ok1 t ↔ al1 okQ1 okQ2 t := by
 have := okL_al [t]
 rw [okL_cons, alL_cons] at this
 simpa [okL_nil, alL_nil] using this
def inQ1 : Q1 := fun k _ _ i => k = 3 → -2147483648 ≤ i ∧ i ≤ 2147483647
theorem intL_al : ∀ l : List Nd, intL l ↔ alL inQ1 (fun _ => True) l := by
 apply forest (P := fun l => intL l ↔ alL inQ1 (fun _ => True) l)
 ·simp [intL_nil, alL_nil]
 ·intro t r h1 h2
  rw [intL_cons, alL_cons, h2]
  unfold int1 al1
  rw [h1]
  unfold inQ1
  simp
theorem int_al (t : Nd) : int1 t ↔ al1 inQ1 (fun _ => True) t := by
 have := intL_al [t]
 rw [intL_cons, alL_cons] at this
 simpa [intL_nil, alL_nil] using this
theorem written_ok {t : Nd} (h : ok1 t) : ok1 (writtenA t) := (ok_al _).2 (al_written ⟨⟨⟨by decide, by decide, by decide⟩, by unfold okQ2; decide⟩, alL_nil⟩ ((ok_al _).1 h))
theorem written_int {t : Nd} (h : int1 t) : int1 (writtenA t) := (int_al _).2 (al_written ⟨⟨fun hk => absurd hk (by decide), trivial⟩, alL_nil⟩ ((int_al _).1 h))
theorem madeNm_size : madeNm.all (fun x => decide (x.size ≤ 64)) = true := by decide
theorem ok_keeps : AlH okQ1 okQ2 okQ1 okQ2 where
 plain := fun _ _ _ _ h _ => h
 key := fun _ h => h
 z := by unfold okQ2; decide
 none := ⟨by decide, by decide, by decide⟩
 num := fun x h0 h1 => ⟨by decide, h0, h1⟩
 fl := ⟨by decide, by decide, by decide⟩
 call := fun nm hm => ⟨by have := of_decide_eq_true (List.all_eq_true.1 madeNm_size nm hm); omega, by decide, by decide⟩
 neg := fun k n x i h => ⟨by decide, fneg_lo x h.2.1 h.2.2⟩
 frm := fun k n x i h => ⟨by decide, fneg_lo _ (ffrom_lo i).1 (ffrom_lo i).2⟩
theorem whole_ok {t : Nd} (h : ok1 t) : ok1 (wholeN t) := (ok_al _).2 (whole_al ok_keeps ((ok_al _).1 h))
theorem cnt_made (a : Int) (nm : ByteArray) (l : List Nd) : cnt (madeN a nm l) = 1 + cntL l := rfl
theorem rate_cnt (a : Int) (r : Nd) : cnt (rateA a r) ≤ 4 + cnt r := by
 unfold rateA
 by_cases c : (r.kind == 2) = true
 ·rw [if_pos c, cnt_made, cntL_cons, cntL_nil]
  show 1 + (1 + cntL [] + 0) ≤ _
  rw [cntL_nil]; omega
 ·rw [if_neg c]
  by_cases d : (r.kind == 3) = true
  ·rw [if_pos d, cnt_made, cntL_cons, cntL_nil]
   show 1 + (1 + cntL [] + 0) ≤ _
   rw [cntL_nil]; omega
  ·rw [if_neg d, cnt_made, cntL_cons, cntL_cons, cntL_nil, cnt_made, cnt_made, cntL_cons, cntL_cons, cntL_nil]
   have : cnt (placeN (numN 3212836864) a) = 1 := by show 1 + cntL (placeL a []) = 1; rw [placeL_nil, cntL_nil]
   omega
theorem leaf_cnt {k x i a : Int} {n y : ByteArray} : cnt (⟨k, n, x, i, y, [], a⟩ : Nd) = 1 := by show 1 + cntL [] = 1; rw [cntL_nil]
theorem lst_cnt {l : List Nd} {n : Nat} (h : l.length = n) : cntL l = cntL ((List.range n).map (ix l)) := by
 have := lst_eq l
 rw [h] at this
 exact congrArg cntL this
theorem bec_cnt {p : Rw × Rent} (hp : p ∈ orderA.zip allE) (a : Int) (lst : List Nd) (hl : lst.length = p.1.args.length) : cnt (becA p.1.name a lst) ≤ 12 + cntL lst := by
 have hr := rate_cnt a (ix lst 0)
 rcases zip_at hp with rfl | rfl | rfl | rfl | rfl | rfl | rfl | rfl | rfl | rfl | rfl | rfl | rfl | rfl | rfl | rfl | rfl
 ·have hc := lst_cnt (n := 3) hl
  have hb := becA_sgd a lst hl
  rw [show row15.name = ⟨#[115, 103, 100]⟩ from rfl] at *
  rw [hb]
  simp only [List.range, List.range.loop, List.map_cons, List.map_nil, cntL_cons, cntL_nil] at hc
  try simp only [cnt_made, decA, cntL_cons, cntL_nil, leaf_cnt]
  omega
 ·have hc := lst_cnt (n := 5) hl
  have hb := becA_adam a lst hl
  rw [show row3.name = ⟨#[97, 100, 97, 109]⟩ from rfl] at *
  rw [hb]
  simp only [List.range, List.range.loop, List.map_cons, List.map_nil, cntL_cons, cntL_nil] at hc
  try simp only [cnt_made, decA, cntL_cons, cntL_nil, leaf_cnt]
  omega
 ·have hc := lst_cnt (n := 5) hl
  have hb := becA_amsgrad a lst hl
  rw [show row7.name = ⟨#[97, 109, 115, 103, 114, 97, 100]⟩ from rfl] at *
  rw [hb]
  simp only [List.range, List.range.loop, List.map_cons, List.map_nil, cntL_cons, cntL_nil] at hc
  try simp only [cnt_made, decA, cntL_cons, cntL_nil, leaf_cnt]
  omega
 ·have hc := lst_cnt (n := 5) hl
  have hb := becA_adabelief a lst hl
  rw [show row0.name = ⟨#[97, 100, 97, 98, 101, 108, 105, 101, 102]⟩ from rfl] at *
  rw [hb]
  simp only [List.range, List.range.loop, List.map_cons, List.map_nil, cntL_cons, cntL_nil] at hc
  try simp only [cnt_made, decA, cntL_cons, cntL_nil, leaf_cnt]
  omega
 ·have hc := lst_cnt (n := 5) hl
  have hb := becA_yogi a lst hl
  rw [show row16.name = ⟨#[121, 111, 103, 105]⟩ from rfl] at *
  rw [hb]
  simp only [List.range, List.range.loop, List.map_cons, List.map_nil, cntL_cons, cntL_nil] at hc
  try simp only [cnt_made, decA, cntL_cons, cntL_nil, leaf_cnt]
  omega
 ·have hc := lst_cnt (n := 3) hl
  have hb := becA_adadelta a lst hl
  rw [show row1.name = ⟨#[97, 100, 97, 100, 101, 108, 116, 97]⟩ from rfl] at *
  rw [hb]
  simp only [List.range, List.range.loop, List.map_cons, List.map_nil, cntL_cons, cntL_nil] at hc
  try simp only [cnt_made, decA, cntL_cons, cntL_nil, leaf_cnt]
  omega
 ·have hc := lst_cnt (n := 4) hl
  have hb := becA_adamax a lst hl
  rw [show row4.name = ⟨#[97, 100, 97, 109, 97, 120]⟩ from rfl] at *
  rw [hb]
  simp only [List.range, List.range.loop, List.map_cons, List.map_nil, cntL_cons, cntL_nil] at hc
  try simp only [cnt_made, decA, cntL_cons, cntL_nil, leaf_cnt]
  omega
 ·have hc := lst_cnt (n := 6) hl
  have hb := becA_novograd a lst hl
  rw [show row11.name = ⟨#[110, 111, 118, 111, 103, 114, 97, 100]⟩ from rfl] at *
  rw [hb]
  simp only [List.range, List.range.loop, List.map_cons, List.map_nil, cntL_cons, cntL_nil] at hc
  try simp only [cnt_made, decA, cntL_cons, cntL_nil, leaf_cnt]
  omega
 ·have hc := lst_cnt (n := 3) hl
  have hb := becA_optimistic a lst hl
  rw [show row12.name = ⟨#[111, 112, 116, 105, 109, 105, 115, 116, 105, 99]⟩ from rfl] at *
  rw [hb]
  simp only [List.range, List.range.loop, List.map_cons, List.map_nil, cntL_cons, cntL_nil] at hc
  try simp only [cnt_made, decA, cntL_cons, cntL_nil, leaf_cnt]
  omega
 ·have hc := lst_cnt (n := 3) hl
  have hb := becA_adagrad a lst hl
  rw [show row2.name = ⟨#[97, 100, 97, 103, 114, 97, 100]⟩ from rfl] at *
  rw [hb]
  simp only [List.range, List.range.loop, List.map_cons, List.map_nil, cntL_cons, cntL_nil] at hc
  try simp only [cnt_made, decA, cntL_cons, cntL_nil, leaf_cnt]
  omega
 ·have hc := lst_cnt (n := 1) hl
  have hb := becA_scale_by_learning_rate a lst hl
  rw [show row14.name = ⟨#[115, 99, 97, 108, 101, 95, 98, 121, 95, 108, 101, 97, 114, 110, 105, 110, 103, 95, 114, 97, 116, 101]⟩ from rfl] at *
  rw [hb]
  simp only [List.range, List.range.loop, List.map_cons, List.map_nil, cntL_cons, cntL_nil] at hc
  try simp only [cnt_made, decA, cntL_cons, cntL_nil, leaf_cnt]
  omega
 ·have hc := lst_cnt (n := 7) hl
  have hb := becA_adamw a lst hl
  rw [show row5.name = ⟨#[97, 100, 97, 109, 119]⟩ from rfl] at *
  rw [hb]
  simp only [List.range, List.range.loop, List.map_cons, List.map_nil, cntL_cons, cntL_nil] at hc
  try simp only [cnt_made, decA, cntL_cons, cntL_nil, leaf_cnt]
  omega
 ·have hc := lst_cnt (n := 5) hl
  have hb := becA_agc a lst hl
  rw [show row6.name = ⟨#[97, 103, 99]⟩ from rfl] at *
  rw [hb]
  simp only [List.range, List.range.loop, List.map_cons, List.map_nil, cntL_cons, cntL_nil] at hc
  try simp only [cnt_made, decA, cntL_cons, cntL_nil, leaf_cnt]
  omega
 ·have hc := lst_cnt (n := 5) hl
  have hb := becA_rmsprop a lst hl
  rw [show row13.name = ⟨#[114, 109, 115, 112, 114, 111, 112]⟩ from rfl] at *
  rw [hb]
  simp only [List.range, List.range.loop, List.map_cons, List.map_nil, cntL_cons, cntL_nil] at hc
  try simp only [cnt_made, decA, cntL_cons, cntL_nil, leaf_cnt]
  omega
 ·have hc := lst_cnt (n := 5) hl
  have hb := becA_lion a lst hl
  rw [show row10.name = ⟨#[108, 105, 111, 110]⟩ from rfl] at *
  rw [hb]
  simp only [List.range, List.range.loop, List.map_cons, List.map_nil, cntL_cons, cntL_nil] at hc
  try simp only [cnt_made, decA, cntL_cons, cntL_nil, leaf_cnt]
  omega
 ·have hc := lst_cnt (n := 7) hl
  have hb := becA_lamb a lst hl
  rw [show row8.name = ⟨#[108, 97, 109, 98]⟩ from rfl] at *
  rw [hb]
  simp only [List.range, List.range.loop, List.map_cons, List.map_nil, cntL_cons, cntL_nil] at hc
  try simp only [cnt_made, decA, cntL_cons, cntL_nil, leaf_cnt]
  omega
 ·have hc := lst_cnt (n := 6) hl
  have hb := becA_lars a lst hl
  rw [show row9.name = ⟨#[108, 97, 114, 115]⟩ from rfl] at *
  rw [hb]
  simp only [List.range, List.range.loop, List.map_cons, List.map_nil, cntL_cons, cntL_nil] at hc
  try simp only [cnt_made, decA, cntL_cons, cntL_nil, leaf_cnt]
  omega
theorem set_cnt : ∀ (l : List Nd) (k : Nat) (x : Nd), cntL (l.set k x) ≤ cntL l + cnt x
 | [], k, x => by simp [cntL]
 | t :: r, 0, x => by rw [List.set_cons_zero, cntL_cons, cntL_cons]; omega
 | t :: r, k + 1, x => by rw [List.set_cons_succ, cntL_cons, cntL_cons]; have := set_cnt r k x; omega
theorem fill_cnt : ∀ (w : List Nat) (l a : List Nd), cntL (fillA w l a) ≤ cntL l + cntL a
 | [], l, a => by simp [fillA]
 | k :: w, [], a => by simp [fillA]
 | k :: w, x :: l, a => by
  rw [fillA]
  have h1 := fill_cnt w l (a.set k (keyN x ⟨#[]⟩))
  have h2 := set_cnt a k (keyN x ⟨#[]⟩)
  have h3 : cnt (keyN x ⟨#[]⟩) = cnt x := rfl
  rw [cntL_cons]
  omega
theorem leaf_cntL : ∀ {l : List Nd}, (∀ v ∈ l, v.args = []) → ∀ a : Int, cntL (l.map fun v => placeN v a) = l.length
 | [], _, a => by simp [cntL]
 | v :: l, h, a => by
  rw [List.map_cons, cntL_cons, leaf_cntL (fun v hv => h v (List.mem_cons_of_mem _ hv)) a, List.length_cons]
  have : cnt (placeN v a) = 1 := by
   show 1 + cntL (placeL a v.args) = 1
   rw [h v List.mem_cons_self, placeL_nil, cntL_nil]
  omega
theorem one_cnt (t : Nd) (l : List Nd) : cnt (oneA t l) ≤ 19 + cntL l := by
 unfold oneA
 rcases find_both t with ⟨-, h2⟩ | ⟨p, hp, -, h2, h3, -⟩
 ·rw [h2]
  show 1 + cntL l ≤ _
  omega
 ·rw [h2]
  have hfine := fine_all hp
  simp only
  have hk : ∀ (x : Nd) (y : ByteArray), cnt (keyN x y) = cnt x := fun _ _ => rfl
  rw [hk, ← h3]
  have h4 := bec_cnt hp t.at_ (fillA (match givenP p.1 t with | .ok w => w | .error _ => []) l (p.1.vals.map fun v => placeN v t.at_)) (by rw [fill_len, List.length_map, ← hfine.names, ← hfine.vals]; simp)
  have h5 := fill_cnt (match givenP p.1 t with | .ok w => w | .error _ => []) l (p.1.vals.map fun v => placeN v t.at_)
  rw [leaf_cntL hfine.leaf] at h5
  have h6 : p.1.vals.length ≤ 7 := by have := rows_len p.1 (order_in _ (List.of_mem_zip hp).1); omega
  refine Nat.le_trans h4 ?_
  omega
theorem whole_cntL : ∀ l : List Nd, cntL (wholeL l) ≤ 19 * cntL l := by
 apply forest
 ·rw [wholeL_nil, cntL_nil]; exact Nat.le_refl _
 ·intro t r h1 h2
  rw [wholeL_cons, cntL_cons, cntL_cons]
  have h3 : cnt (wholeN t) ≤ 19 + cntL (wholeL t.args) := one_cnt t _
  unfold cnt at h3 ⊢
  omega
theorem whole_cnt (t : Nd) : cnt (wholeN t) ≤ 19 * cnt t := by
 have h1 : cnt (wholeN t) ≤ 19 + cntL (wholeL t.args) := one_cnt t _
 have h2 := whole_cntL t.args
 unfold cnt at h1 ⊢
 omega
end Go.Proofs.YtmiidhgbdecdkaaGreat
