import Derived.Test.YtbmkddmmclndcaaPart4
import Derived.Test.YtbmkddmmclndcaaPart1
import Derived.BigQuiet
/- Package tree: judge, measure, Check; Depth. -/
namespace Go.Proofs.Ytbmkddmmclndcaa
open Go.RowKit
set_option linter.unusedVariables false
set_option linter.unusedSimpArgs false

/-- The walk of a tree that lies there. -/
theorem walk_top {σ : Type} {k : Nat} {cap : Array Value} {g : σ → Nd → Int → Option Nd → Bool × σ} {I : Nat → σ → World → Prop} (W : World) (t : Nd) (b o : Nat) (hc : cnt t ≤ 99000) (hok : ok1 t) (hn : NodeA W anyH b o t) (s : σ)
    (H : Looks k cap g (RT W.heap.size) (LT W) I) (v : World) (hI : I (cnt t) s v) (hv : Below W.heap.size W v) :
    Calls Try.prog 31 #[.pointer (some ⟨b, o, none⟩), .agg #[.int .i64 1, .pointer none], .func (.func k) #[] cap] v fun e v' => e = .returned (.bool (wk g t 1 none s).1) ∧ I 0 (wk g t 1 none s).2 v' ∧ Below W.heap.size W v' :=
  (walk_any H (dep t) t 0 s v b o 1 none none (Nat.le_refl _) hc (by decide) (by have := dep_cnt t; omega) (by rw [Nat.zero_add]; exact hI) ⟨hn, ⟨hok, hc⟩, hv⟩ (.inl ⟨rfl, rfl⟩)).mono fun e v' ⟨he, hi, hr⟩ => ⟨he, hi, hv.trans (hr.1 hv.size)⟩

def ICell (C : Nat) (t : TypeId) (m : Nat) (s : Int) (w : World) : Prop := w.heap[C]? = some (.cells #[.int .i64 s] t)
theorem ICell.below {C : Nat} {t : TypeId} {m : Nat} {s : Int} {w w' : World} (h : ICell C t m s w) (k : Below w.heap.size w w') : ICell C t m s w' := by
  unfold ICell at *
  rw [k.block C (hlt h)]; exact h

/-- measure: too deep, too many. -/
def gMeas : Int → Nd → Int → Option Nd → Bool × Int := fun s _ d _ => (decide (d ≤ 64), s + 1)
set_option maxHeartbeats 400000 in
theorem measure1_any (W : World) (C : Nat) (hC : W.heap.size ≤ C) (m : Nat) (s : Int) (w : World) (b o : Nat) (t : Nd) (d : Int) (av : Option Addr) (u : Option Nd) (hI : ICount C (m + 1) s w) :
    Calls Try.prog 45 (#[.pointer (some ⟨b, o, none⟩), .agg #[.int .i64 d, .pointer av]] ++ #[.pointer (some ⟨C, 0, none⟩)]) w fun e w' => e = .returned (.bool (gMeas s t d u).1) ∧ ICount C m (gMeas s t d u).2 w' ∧ RT W.heap.size w w' := by
  obtain ⟨h0, h1, h2⟩ := hI
  have g1 := heap_old w (.cells #[.int .i64 d, .pointer av] 64) h2
  obtain ⟨c1, f1⟩ := one_cell g1
  have hne : w.heap.size ≠ C := by have := hlt h2; omega
  show Calls Try.prog 45 #[.pointer (some ⟨b, o, none⟩), .agg #[.int .i64 d, .pointer av], .pointer (some ⟨C, 0, none⟩)] w _
  have G1 : Hid ((w.alloc (.cells #[.int .i64 d, .pointer av] 64)).heap[C]? = some (.cells #[.int .i64 s] 3)) := g1
  clear g1 h2
  go_enter Try.func45, Try.ntmps45
  go_wp2
  go_ret
  refine ⟨rfl, ⟨?_, ?_, ?_⟩, (RT.below (bel_alloc w _)).trans (RT.set G1.out hC _)⟩
  · show 0 ≤ s + 1; omega
  · show s + 1 + m ≤ 99000; omega
  · exact heap_set G1.out _

theorem wkL_meas (l : List Nd) : ∀ (d : Int) (u : Option Nd) (s : Int), (d - 1 + depL l ≤ 64 → wkL gMeas l d u s = (true, s + cntL l)) ∧ (d ≤ 65 → 64 < d - 1 + depL l → (wkL gMeas l d u s).1 = false) := by
  apply forest (P := fun l => ∀ (d : Int) (u : Option Nd) (s : Int), (d - 1 + depL l ≤ 64 → wkL gMeas l d u s = (true, s + cntL l)) ∧ (d ≤ 65 → 64 < d - 1 + depL l → (wkL gMeas l d u s).1 = false))
  · intro d u s
    rw [wkL_nil, depL_nil, cntL_nil]
    refine ⟨fun _ => by simp, fun h1 h2 => ?_⟩
    omega
  · intro t r h1 h2 d u s
    rw [wkL_cons, depL_cons, cntL_cons]
    have e1 : d - 1 + dep t ≤ 64 → wk gMeas t d u s = (true, s + cnt t) := fun h => by
      unfold dep at h
      unfold wk
      rw [show gMeas s t d u = (decide (d ≤ 64), s + 1) from rfl]
      rw [if_pos (by rw [decide_eq_true_iff]; omega), (h1 _ _ _).1 (by omega)]
      unfold cnt
      congr 1
      push_cast
      omega
    have e2 : d ≤ 65 → 64 < d - 1 + dep t → (wk gMeas t d u s).1 = false := fun h h' => by
      unfold dep at h'
      unfold wk
      rw [show gMeas s t d u = (decide (d ≤ 64), s + 1) from rfl]
      by_cases c : d ≤ 64
      · rw [if_pos (by rw [decide_eq_true_iff]; exact c)]
        exact (h1 _ _ _).2 (by omega) (by omega)
      · rw [if_neg (by rw [decide_eq_true_iff]; exact c)]
    constructor
    · intro h
      rw [e1 (by omega), if_pos rfl, (h2 _ _ _).1 (by omega)]
      congr 1
      push_cast
      omega
    · intro h h'
      by_cases c : 64 < d - 1 + dep t
      · rw [e2 h c, if_neg (by decide)]
      · rw [e1 (by omega), if_pos rfl]
        exact (h2 _ _ _).2 h (by omega)
theorem wk_meas (t : Nd) (u : Option Nd) : (dep t ≤ 64 → wk gMeas t 1 u 0 = (true, (cnt t : Int))) ∧ (64 < dep t → (wk gMeas t 1 u 0).1 = false) := by
  rw [← wkL_one]
  have := wkL_meas [t] 1 u 0
  rw [depL_one, cntL_one] at this
  exact ⟨fun h => by rw [this.1 (by omega)]; simp, fun h => this.2 (by decide) (by omega)⟩

def measP (t : Nd) : Int := if 64 < dep t then 81 else if 4096 < cnt t then 82 else 0

set_option maxHeartbeats 1000000 in
theorem measure_any (t : Nd) (b o : Nat) (w : World) (hc : cnt t ≤ 99000) (hok : ok1 t) (hn : NodeA w anyH b o t) :
    Calls Try.prog 30 #[.pointer (some ⟨b, o, none⟩)] w fun e w' => e = .returned (.int .i64 (measP t)) ∧ Below w.heap.size w w' := by
  have HC : Hid (∀ v : World, ICount w.heap.size (cnt t) 0 v → Below w.heap.size w v → Calls Try.prog 31 #[.pointer (some ⟨b, o, none⟩), .agg #[.int .i64 1, .pointer none], .func (.func 45) #[] #[.pointer (some ⟨w.heap.size, 0, none⟩)]] v fun e v' => e = .returned (.bool (wk gMeas t 1 none 0).1) ∧ v'.cell? ⟨w.heap.size, 0, none⟩ = some (.int .i64 (wk gMeas t 1 none 0).2) ∧ Below w.heap.size w v') := fun v hI hv => by
    have := walk_top w t b o hc hok hn 0 (looks_of w (enters_of Try.func45 (by kernel_rfl) rfl) (fun m s w w' h k => h.below k) (fun m m' s w hm h => ⟨h.1, by have := h.2.1; omega, h.2.2⟩) (fun m s v b o t d av u hI _ _ => measure1_any w w.heap.size (Nat.le_refl _) m s v b o t d av u hI)) v hI hv
    exact this.mono fun e v' ⟨he, hi, hr⟩ => ⟨he, (one_cell hi.2.2).1, hr⟩
  obtain ⟨r, s, hrs⟩ : ∃ r s, wk gMeas t 1 none 0 = (r, s) := ⟨_, _, rfl⟩
  have hM : measP t = if r then (if 4096 < s then 82 else 0) else 81 := by
    unfold measP
    by_cases c : 64 < dep t
    · have := (wk_meas t none).2 c
      rw [hrs] at this
      have : r = false := this
      rw [if_pos c, this]; rfl
    · have := (wk_meas t none).1 (by omega)
      rw [hrs] at this
      cases this
      rw [if_neg c, if_pos rfl]
      by_cases c2 : 4096 < cnt t
      · rw [if_pos c2, if_pos (by omega)]
      · rw [if_neg c2, if_neg (by omega)]
  rw [hrs] at HC
  rw [hM]
  clear hrs hM hn hok
  go_enter Try.func30, Try.ntmps30
  go_wp2_with (first
    | (go_at_call 32; refine (top_any _).mono ?_; rintro e w2 ⟨rfl, hb2⟩; have hI2 : ICount w.heap.size (cnt t) 0 w2 := ICount.below ⟨by omega, by omega, box_heap _ _⟩ hb2; have hB2 := bel (bel_alloc w _) hb2)
    | (go_at_call 31; (with_reducible refine (HC.out _ hI2 hB2).mono ?_); rintro e w3 ⟨rfl, hc3, hb3⟩))
  all_goals (go_ret; refine ⟨ret_int ?_, hb3⟩; simp_all)

/-- Check's own walk. -/
def gCheck : Int → Nd → Int → Option Nd → Bool × Int := fun _ t _ u => (judgeP t u == 0, judgeP t u)
def checkP (t : Nd) : Int := if measP t = 0 then (wk gCheck t 1 none 0).2 else measP t

set_option maxRecDepth 100000 in
set_option maxHeartbeats 2000000 in
theorem judge_none (b o : Nat) (t : Nd) (w : World) (hc : cnt t ≤ 99000) (hok : ok1 t) (hn : NodeA w anyH b o t) :
    Calls Try.prog 34 #[.pointer (some ⟨b, o, none⟩), .pointer none] w fun e w' => e = .returned (.int .i64 (judgeP t none)) ∧ Below w.heap.size w w' := by
  have HK : Hid (∀ v, Below w.heap.size w v → Calls Try.prog 47 #[.pointer (some ⟨b, o, none⟩)] v fun e v' => e = .returned (.bool (kindP t)) ∧ Below v.heap.size v v' ∧ v'.cell? ⟨b, o, none⟩ = some (.int .i64 t.kind)) := fun v hv =>
    (kindMayBe_any b o t v hc hok (hn.below hv)).mono fun e v' ⟨he, hb⟩ => ⟨he, hb, ((hn.below hv).below hb).1⟩
  obtain ⟨e0, e1, -, -, e4, -, -⟩ := hn
  obtain ⟨⟨s1, s2, -, -⟩, -⟩ := hok
  clear hc
  unfold judgeP keyP standsP
  simp only
  obtain ⟨kp, hkp⟩ : ∃ kp, kindP t = kp := ⟨_, rfl⟩
  rw [hkp] at HK ⊢
  clear hkp
  obtain ⟨k, nm, x, i, y, l, a⟩ := t
  simp only at *
  by_cases z1 : 64 < nm.size
  · rw [if_pos (.inl z1)]
    go_enter Try.func34, Try.ntmps34
    go_wp2
    go_ret
    exact ⟨rfl, bel0 _⟩
  by_cases z2 : 64 < y.size
  · rw [if_pos (.inr z2)]
    go_enter Try.func34, Try.ntmps34
    go_wp2
    go_ret
    exact ⟨rfl, bel0 _⟩
  rw [if_neg (by omega)]
  go_enter Try.func34, Try.ntmps34
  go_wp2_with (first
    | (go_at_call 46; refine (keyMayBe_none _ _).mono ?_; rintro e w1 ⟨rfl, rfl⟩)
    | (go_at_call 47; refine (HK.out _ (bel0 _)).mono ?_; rintro e w2 ⟨rfl, hb2, c2⟩)
    | (go_at_call 48; refine (standsWell_none _ _ _ _ c2).mono ?_; rintro e w3 ⟨rfl, rfl⟩))
  all_goals (go_ret; refine ⟨ret_int ?_, (by first | exact hb2 | exact bel0 _)⟩; simp_all)

set_option maxRecDepth 100000 in
set_option maxHeartbeats 2000000 in
theorem judge_some (b o : Nat) (t : Nd) (b' o' : Nat) (u : Nd) (w : World) (hc : cnt t ≤ 99000) (hok : ok1 t) (hn : NodeA w anyH b o t) (hu : NodeA w anyH b' o' u) :
    Calls Try.prog 34 #[.pointer (some ⟨b, o, none⟩), .pointer (some ⟨b', o', none⟩)] w fun e w' => e = .returned (.int .i64 (judgeP t (some u))) ∧ Below w.heap.size w w' := by
  have HK : Hid (∀ v, Below w.heap.size w v → Calls Try.prog 47 #[.pointer (some ⟨b, o, none⟩)] v fun e v' => e = .returned (.bool (kindP t)) ∧ Below v.heap.size v v' ∧ v'.cell? ⟨b, o, none⟩ = some (.int .i64 t.kind) ∧ v'.cell? ⟨b', o', none⟩ = some (.int .i64 u.kind)) := fun v hv =>
    (kindMayBe_any b o t v hc hok (hn.below hv)).mono fun e v' ⟨he, hb⟩ => ⟨he, hb, ((hn.below hv).below hb).1, ((hu.below hv).below hb).1⟩
  obtain ⟨e0, e1, -, -, e4, -, -⟩ := hn
  have u0 := hu.1
  obtain ⟨⟨s1, s2, -, -⟩, -⟩ := hok
  clear hc hu
  unfold judgeP keyP standsP
  simp only
  obtain ⟨kp, hkp⟩ : ∃ kp, kindP t = kp := ⟨_, rfl⟩
  rw [hkp] at HK ⊢
  clear hkp
  obtain ⟨k, nm, x, i, y, l, a⟩ := t
  obtain ⟨k', nm', x', i', y', l', a'⟩ := u
  simp only at *
  by_cases z1 : 64 < nm.size
  · rw [if_pos (.inl z1)]
    go_enter Try.func34, Try.ntmps34
    go_wp2
    go_ret
    exact ⟨rfl, bel0 _⟩
  by_cases z2 : 64 < y.size
  · rw [if_pos (.inr z2)]
    go_enter Try.func34, Try.ntmps34
    go_wp2
    go_ret
    exact ⟨rfl, bel0 _⟩
  rw [if_neg (by omega)]
  have KY := keyMayBe_some y s2 b' o'
  obtain ⟨kq, hkq⟩ : ∃ kq, (y.toList.isEmpty || nameP y) = kq := ⟨_, rfl⟩
  rw [hkq] at KY ⊢
  have HY : Hid (∀ w, Calls Try.prog 46 #[.string y, .pointer (some ⟨b', o', none⟩)] w fun e w' => e = .returned (.bool kq) ∧ w' = w) := KY
  clear KY hkq
  cases kq <;> cases kp
  all_goals (
    go_enter Try.func34, Try.ntmps34
    go_wp2_with (first
      | (go_at_call 46; refine (HY.out _).mono ?_; rintro e w1 ⟨rfl, rfl⟩)
      | (go_at_call 47; refine (HK.out _ (bel0 _)).mono ?_; rintro e w2 ⟨rfl, hb2, c2, c3⟩)
      | (go_at_call 48; refine (standsWell_some _ _ _ _ _ _ _ c2 c3).mono ?_; rintro e w3 ⟨rfl, rfl⟩))
    all_goals (go_ret; refine ⟨ret_int ?_, (by first | exact hb2 | exact bel0 _)⟩; simp_all))

set_option maxHeartbeats 1000000 in
theorem check1_any (W : World) (C : Nat) (hC : W.heap.size ≤ C) (m : Nat) (s : Int) (w : World) (b o : Nat) (t : Nd) (d : Int) (av : Option Addr) (u : Option Nd) (hI : ICell C 29 (m + 1) s w) (hL : LT W w b o t) (hA : Ab (LT W) w av u) :
    Calls Try.prog 33 (#[.pointer (some ⟨b, o, none⟩), .agg #[.int .i64 d, .pointer av]] ++ #[.pointer (some ⟨C, 0, none⟩)]) w fun e w' => e = .returned (.bool (gCheck s t d u).1) ∧ ICell C 29 m (gCheck s t d u).2 w' ∧ RT W.heap.size w w' := by
  unfold ICell at hI
  have g1 := heap_old w (.cells #[.int .i64 d, .pointer av] 64) hI
  have HJ : Hid (Calls Try.prog 34 #[.pointer (some ⟨b, o, none⟩), .pointer av] (w.alloc (.cells #[.int .i64 d, .pointer av] 64)) fun e w' => e = .returned (.int .i64 (judgeP t u)) ∧ RT W.heap.size w w' ∧ w'.heap[C]? = some (.cells #[.int .i64 s] 29)) := by
    have hb := bel_alloc w (.cells #[.int .i64 d, .pointer av] 64)
    rcases hA with ⟨rfl, rfl⟩ | ⟨b', o', u', rfl, rfl, hu⟩
    · exact (judge_none b o t _ hL.2.1.2 hL.2.1.1 (hL.node.below hb)).mono fun e w' ⟨he, h⟩ => ⟨he, RT.below (bel hb h), by rw [h.block C (hlt g1)]; exact g1⟩
    · exact (judge_some b o t b' o' u' _ hL.2.1.2 hL.2.1.1 (hL.node.below hb) (hu.node.below hb)).mono fun e w' ⟨he, h⟩ => ⟨he, RT.below (bel hb h), by rw [h.block C (hlt g1)]; exact g1⟩
  show Calls Try.prog 33 #[.pointer (some ⟨b, o, none⟩), .agg #[.int .i64 d, .pointer av], .pointer (some ⟨C, 0, none⟩)] w _
  unfold gCheck
  obtain ⟨j, hj⟩ : ∃ j, judgeP t u = j := ⟨_, rfl⟩
  simp only
  rw [hj] at HJ ⊢
  clear g1 hI hL hA hj
  go_enter Try.func33, Try.ntmps33
  go_wp2_with (go_at_call 34; (with_reducible refine HJ.out.mono ?_); rintro e w1 ⟨rfl, hr1, hx1⟩; obtain ⟨c1, f1⟩ := one_cell hx1; have HX : Hid (w1.heap[C]? = some (.cells #[.int .i64 s] 29)) := hx1; clear hx1)
  go_ret
  exact ⟨rfl, heap_set HX.out _, hr1.trans (RT.set HX.out hC _)⟩

set_option maxHeartbeats 1000000 in
theorem check_any (t : Nd) (sv : Value) (w : World) (hc : cnt t ≤ 99000) (hok : ok1 t) (hk : Kids w anyH sv t.args) :
    Calls Try.prog 18 #[nv t sv] w fun e w' => e = .returned (.int .i64 (checkP t)) ∧ Below w.heap.size w w' := by
  have hn := box_node w t sv hk
  have hbW := bel_alloc w (.cells #[.int .i64 t.kind, .string t.name, .int .u32 t.num, .int .i64 t.int_, .string t.key, sv, .int .i64 t.at_] 26)
  obtain ⟨W, hW⟩ : ∃ W, w.alloc (.cells #[.int .i64 t.kind, .string t.name, .int .u32 t.num, .int .i64 t.int_, .string t.key, sv, .int .i64 t.at_] 26) = W := ⟨_, rfl⟩
  have hs : W.heap.size = w.heap.size + 1 := by rw [← hW]; simp
  have HM : Hid (Calls Try.prog 30 #[.pointer (some ⟨w.heap.size, 0, none⟩)] (w.alloc (.cells #[.int .i64 t.kind, .string t.name, .int .u32 t.num, .int .i64 t.int_, .string t.key, sv, .int .i64 t.at_] 26)) fun e v => e = .returned (.int .i64 (measP t)) ∧ NodeA v anyH w.heap.size 0 t ∧ Below w.heap.size w v) :=
    (measure_any t w.heap.size 0 _ hc hok hn).mono fun e v ⟨he, hb⟩ => ⟨he, hn.below hb, bel hbW hb⟩
  have HC : Hid (∀ V v : World, NodeA V anyH w.heap.size 0 t → ICell V.heap.size 29 (cnt t) 0 v → Below V.heap.size V v → Calls Try.prog 31 #[.pointer (some ⟨w.heap.size, 0, none⟩), .agg #[.int .i64 1, .pointer none], .func (.func 33) #[] #[.pointer (some ⟨V.heap.size, 0, none⟩)]] v fun e v' => e = .returned (.bool (wk gCheck t 1 none 0).1) ∧ v'.cell? ⟨V.heap.size, 0, none⟩ = some (.int .i64 (wk gCheck t 1 none 0).2) ∧ Below V.heap.size V v') := fun V v hn hI hv => by
    have := walk_top V t w.heap.size 0 hc hok hn 0 (looks_of V (enters_of Try.func33 (by kernel_rfl) rfl) (fun m s w w' h k => h.below k) (fun m m' s w hm h => h) (fun m s v b o t d av u hI hL hA => check1_any V V.heap.size (Nat.le_refl _) m s v b o t d av u hI hL hA)) v hI hv
    exact this.mono fun e v' ⟨he, hi, hr⟩ => ⟨he, (one_cell hi).1, hr⟩
  unfold checkP
  obtain ⟨mp, hmp⟩ : ∃ mp, measP t = mp := ⟨_, rfl⟩
  obtain ⟨r, q, hq⟩ : ∃ r q, wk gCheck t 1 none 0 = (r, q) := ⟨_, _, rfl⟩
  rw [hmp] at HM ⊢
  rw [hq] at HC ⊢
  clear hn hbW hW hs hmp hq hk hok
  unfold nv
  by_cases h0 : mp = 0
  · subst h0
    rw [if_pos rfl]
    go_enter Try.func18, Try.ntmps18
    go_wp2_with (first
      | (go_at_call 30; (with_reducible refine HM.out.mono ?_); rintro e w1 ⟨rfl, hn1, hb1⟩; have HN1 : Hid (NodeA w1 anyH w.heap.size 0 t) := hn1; clear hn1)
      | (go_at_call 32; refine (top_any _).mono ?_; rintro e w2 ⟨rfl, hb2⟩; have hI2 : ICell w1.heap.size 29 (cnt t) 0 w2 := ICell.below (m := cnt t) (box_heap _ _) hb2; have hB2 := bel (bel_alloc w1 _) hb2)
      | (go_at_call 31; (with_reducible refine (HC.out w1 _ HN1.out hI2 hB2).mono ?_); rintro e w3 ⟨rfl, hc3, hb3⟩))
    go_ret
    exact ⟨rfl, bel hb1 hb3⟩
  · rw [if_neg h0]
    have z : (mp == 0) = false := by simpa using h0
    go_enter Try.func18, Try.ntmps18
    go_wp2_with (go_at_call 30; (with_reducible refine HM.out.mono ?_); rintro e w1 ⟨rfl, hn1, hb1⟩)
    go_ret
    exact ⟨rfl, hb1⟩

end Go.Proofs.Ytbmkddmmclndcaa
/- Package alias: scopes in memory, meant. -/
namespace Go.Proofs.Ytbmkddmmclndcaa
open Go.RowKit
set_option linter.unusedVariables false
set_option linter.unusedSimpArgs false

/-- How great a node is, written out. -/
def szA (e : Env) (t : Nd) : Int × Int := ((min (cnt (wrN e t)) 4097 : Nat), (dep (wrN e t) : Nat))
/-- A let of a scope: its name, its value, its size. -/
def SLetA (w : World) (b o : Nat) (x : ByteArray × Nd) (z : Int × Int) : Prop :=
  w.cell? ⟨b, o, none⟩ = some (.string x.1) ∧ (∃ bi oi, w.cell? ⟨b, o + 1, none⟩ = some (.pointer (some ⟨bi, oi, none⟩)) ∧ NodeA w anyH bi oi x.2) ∧ w.cell? ⟨b, o + 2, none⟩ = some (.int .i64 z.1) ∧ w.cell? ⟨b, o + 3, none⟩ = some (.int .i64 z.2)
def ScopeA (w : World) (p : Option Addr) (l : List (ByteArray × Nd)) : Prop := ∀ i (h : i < l.length), ∃ b, p = some ⟨b, 0, none⟩ ∧ SLetA w b (i * 4) l[i] (szA (envA (l.take i)) l[i].2)
theorem SLetA.below {w w' : World} {b o : Nat} {x : ByteArray × Nd} {z : Int × Int} (h : SLetA w b o x z) (k : Below w.heap.size w w') : SLetA w' b o x z := by
  obtain ⟨h0, ⟨bi, oi, h1, hn⟩, h2, h3⟩ := h
  exact ⟨(k.cell (mcell_lt h0)).trans h0, ⟨bi, oi, (k.cell (mcell_lt h1)).trans h1, hn.below k⟩, (k.cell (mcell_lt h2)).trans h2, (k.cell (mcell_lt h3)).trans h3⟩
theorem ScopeA.below {w w' : World} {p : Option Addr} {l : List (ByteArray × Nd)} (h : ScopeA w p l) (k : Below w.heap.size w w') : ScopeA w' p l := fun i hi => by
  obtain ⟨b, h1, h2⟩ := h i hi
  exact ⟨b, h1, h2.below k⟩
/-- The first so many of a scope. -/
theorem ScopeA.take {w : World} {p : Option Addr} {l : List (ByteArray × Nd)} (h : ScopeA w p l) (k : Nat) : ScopeA w p (l.take k) := fun i hi => by
  have hi' : i < l.length := by rw [List.length_take] at hi; omega
  obtain ⟨b, h1, h2⟩ := h i hi'
  refine ⟨b, h1, ?_⟩
  rw [List.getElem_take, List.take_take, show min i k = i from by rw [List.length_take] at hi; omega]
  exact h2
/-- The let that a node means. -/
def mntP (l : List (ByteArray × Nd)) (t : Nd) : Option Nat := if t.kind = 4 then meantP l t.name l.length else none
theorem mntP_lt {l : List (ByteArray × Nd)} {t : Nd} {i : Nat} (h : mntP l t = some i) : i < l.length := by
  unfold mntP at h
  split at h
  · exact meantP_lt h
  · cases h

set_option maxRecDepth 100000 in
set_option maxHeartbeats 1000000 in
theorem smeant_any (l : List (ByteArray × Nd)) (p : Option Addr) (c b o : Nat) (t : Nd) (w : World) (hl : l.length ≤ 40000) (h : ScopeA w p l) (hn : NodeA w anyH b o t) :
    Calls Try.prog 49 #[.slice p l.length c, .pointer (some ⟨b, o, none⟩)] w fun e w' => e = .returned (match mntP l t with | some i => .tuple #[.int .i64 i, .bool true] | none => .tuple #[.int .i64 0, .bool false]) ∧ Below w.heap.size w w' := by
  obtain ⟨n, hnn⟩ : ∃ n, l.length = n := ⟨_, rfl⟩
  have HN : Hid (l.length = n) := hnn
  have HL : Hid (ScopeA w p l) := h
  obtain ⟨D, hD⟩ : ∃ D, (match mntP l t with | some i => Value.tuple #[.int .i64 i, .bool true] | none => Value.tuple #[.int .i64 0, .bool false]) = D := ⟨_, rfl⟩
  have HD : Hid ((match mntP l t with | some i => Value.tuple #[.int .i64 i, .bool true] | none => Value.tuple #[.int .i64 0, .bool false]) = D) := hD
  rw [hD]
  rw [hnn] at hl ⊢
  obtain ⟨e0, e1, -⟩ := hn
  have hw0 : IntKind.i64.wrap ((n : Int) - 1) = (n : Int) - 1 := by rw [IntKind.wrap_i64]; omega
  clear hnn h hD
  by_cases hk4 : t.kind = 4
  · have HF0 : Hid (∀ (i : Option Nat), meantP l t.name n = i → (match i with | some i => Value.tuple #[.int .i64 i, .bool true] | none => Value.tuple #[.int .i64 0, .bool false]) = D) := fun i hi => by
      rw [← HD.out]
      unfold mntP
      rw [if_pos hk4, HN.out, hi]
    obtain ⟨nm, hnm⟩ : ∃ nm, t.name = nm := ⟨_, rfl⟩
    rw [hk4] at e0
    rw [hnm] at e1 HF0
    clear hk4 HD hnm
    go_enter Try.func49, Try.ntmps49
    go_wp2
    go_loopw [6] (fun iv wr => Below w.heap.size w wr ∧ ∃ j : Nat, j ≤ n ∧ iv = .int .i64 ((j : Int) - 1) ∧ Hid (meantP l nm n = meantP l nm j)) (fun iv _ => (intOf iv + 1).toNat)
    case atStart => exact ⟨Below.refl _ _, n, Nat.le_refl _, rfl, rfl⟩
    case round =>
      obtain ⟨hb, j, hj, rfl, HJ⟩ := hrel
      clear hw0
      have HB : Hid (Below w.heap.size w wr) := hb
      by_cases h0 : j = 0
      · subst h0
        have HF : Hid (Value.tuple #[.int .i64 0, .bool false] = D) := HF0.out none (by rw [HJ.out]; rfl)
        clear HJ
        go_wp2
        refine bodyPost_ret (by simp [results, Try.results49, go_sem, *]; try rfl) rfl ?_
        exact ⟨by rw [← HF.out], HB.out⟩
      · obtain ⟨i, rfl⟩ : ∃ i, j = i + 1 := ⟨j - 1, by omega⟩
        have e1' : ((i + 1 : Nat) : Int) - 1 = (i : Int) := by omega
        rw [e1']
        have hll : i < l.length := by rw [HN.out]; omega
        obtain ⟨bs, rfl, hla⟩ := (HL.out.below hb) i hll
        obtain ⟨x0, -⟩ := hla
        have x1 := (hb.cell (mcell_lt e1)).trans e1
        have k0 : (0 : Int) ≤ (i : Int) := by omega
        have k1 : (i : Int) < (n : Int) := by omega
        have hw1 : IntKind.i64.wrap ((i : Int) - 1) = (i : Int) - 1 := by rw [IntKind.wrap_i64]; omega
        obtain ⟨Y, hY⟩ : ∃ Y, l[i].1 = Y := ⟨_, rfl⟩
        have HNO : Hid (sameB Y nm = false → meantP l nm n = meantP l nm i) := fun h => by rw [HJ.out, meantP_no hll (by rw [hY]; exact h)]
        have HYS : Hid (sameB Y nm = true → Value.tuple #[.int .i64 i, .bool true] = D) := fun h => HF0.out (some i) (by rw [HJ.out, meantP_yes hll (by rw [hY]; exact h)])
        rw [hY] at x0
        unfold sameB at HNO HYS
        clear hY HJ HF0 hb e1 e0
        cases hsm : (Y.toList == nm.toList)
        · have HN2 : Hid (meantP l nm n = meantP l nm i) := HNO.out hsm
          clear HNO HYS
          go_wp2
          go_quiet (fail)
          go_wp2
          go_roundw
          case rel => exact ⟨bel HB.out (bel_dn _ _), i, by omega, rfl, HN2.out⟩
          case measure => simp [intOf]
        · have HF : Hid (Value.tuple #[.int .i64 i, .bool true] = D) := HYS.out hsm
          clear HNO HYS
          go_wp2
          go_quiet (fail)
          go_wp2
          refine bodyPost_ret (by simp [results, Try.results49, go_sem, *]; try rfl) rfl ?_
          exact ⟨by rw [← HF.out], bel HB.out (bel_dn _ _)⟩
  · have HF : Hid (Value.tuple #[.int .i64 0, .bool false] = D) := by
      show _ = D
      rw [← HD.out]
      unfold mntP
      rw [if_neg hk4]
    have hk5 : (t.kind == 4) = false := by simpa using hk4
    clear HD hw0
    go_enter Try.func49, Try.ntmps49
    go_wp2
    refine bodyPost_ret (by simp [results, Try.results49, go_sem, *]; try rfl) rfl ?_
    exact ⟨by rw [← HF.out], Below.refl _ _⟩

end Go.Proofs.Ytbmkddmmclndcaa
/- Package alias: measure. -/
namespace Go.Proofs.Ytbmkddmmclndcaa
open Go.RowKit
set_option linter.unusedVariables false
set_option linter.unusedSimpArgs false

theorem twoC {v : World} {R : Nat} {a0 a1 : Value} {t : TypeId} (h : v.heap[R]? = some (.cells #[a0, a1] t)) :
    (v.cell? ⟨R, 0, none⟩ = some a0 ∧ v.cell? ⟨R, 1, none⟩ = some a1) ∧ (v.frozen? ⟨R, 0, none⟩ = false ∧ v.frozen? ⟨R, 1, none⟩ = false) :=
  ⟨⟨(at_cell h 0 rfl).1, (at_cell h 1 rfl).1⟩, (at_cell h 0 rfl).2, (at_cell h 1 rfl).2⟩
theorem put_twoC {v : World} {R : Nat} {a0 a1 : Value} {t : TypeId} (h : v.heap[R]? = some (.cells #[a0, a1] t)) (b0 b1 : Value) : ((v.setCell ⟨R, 0, none⟩ b0).setCell ⟨R, 1, none⟩ b1).heap[R]? = some (.cells #[b0, b1] t) := by
  have := heap_setAt (heap_setAt h 0 b0) 1 b1
  simpa using this
theorem new_size (w : World) : ∃ W, w.alloc (.cells #[.int .i64 0, .int .i64 0] 73) = W ∧ W.heap[w.heap.size]? = some (.cells #[.int .i64 0, .int .i64 0] 73) ∧ Below w.heap.size w W :=
  ⟨_, rfl, box_heapA _ _, (Below.refl _ _).alloc (Nat.le_refl _) _⟩
theorem below_at {B : Nat} {w v : World} (h : Below B w v) {R : Nat} (hR : B ≤ R) (i : Nat) (x : Value) : Below B w (v.setCell ⟨R, i, none⟩ x) := h.setCell (p := ⟨R, i, none⟩) hR x
theorem other_at {v : World} {R Q : Nat} (h : Q ≠ R) (i : Nat) (x : Value) : (v.setCell ⟨R, i, none⟩ x).heap[Q]? = v.heap[Q]? := Below.heap_setCell _ _ _ _ h

theorem mcntL_place (a : Int) : ∀ l : List Nd, cntL (placeL a l) = cntL l := by
  apply forest (P := fun l => cntL (placeL a l) = cntL l)
  · rw [placeL_nil]
  · intro t r h1 h2
    rw [placeL_cons, cntL_cons, cntL_cons, h2]
    have : cnt (placeN t a) = cnt t := by unfold cnt; rw [show (placeN t a).args = placeL a t.args from rfl, h1]
    rw [this]
theorem mdepL_place (a : Int) : ∀ l : List Nd, depL (placeL a l) = depL l := by
  apply forest (P := fun l => depL (placeL a l) = depL l)
  · rw [placeL_nil]
  · intro t r h1 h2
    rw [placeL_cons, depL_cons, depL_cons, h2]
    have : dep (placeN t a) = dep t := by unfold dep; rw [show (placeN t a).args = placeL a t.args from rfl, h1]
    rw [this]
theorem mcnt_place (t : Nd) (a : Int) : cnt (placeN t a) = cnt t := by unfold cnt; rw [show (placeN t a).args = placeL a t.args from rfl, mcntL_place]
theorem mdep_place (t : Nd) (a : Int) : dep (placeN t a) = dep t := by unfold dep; rw [show (placeN t a).args = placeL a t.args from rfl, mdepL_place]
/-- What a name means, written out. -/
theorem wr_mnt {l : List (ByteArray × Nd)} {t : Nd} {i : Nat} (h : mntP l t = some i) : ∃ hi : i < l.length, wrN (envA l) t = keyN (placeN (wrN (envA (l.take i)) l[i].2) t.at_) t.key := by
  have hi := mntP_lt h
  refine ⟨hi, ?_⟩
  unfold mntP at h
  split at h
  · rename_i hk
    have := look_meant (l := l) (nm := t.name) (Nat.le_refl l.length)
    rw [List.take_length, h] at this
    simp only [List.getElem?_eq_getElem hi, Option.map_some] at this
    unfold wrN wrOne
    rw [if_pos (by simpa using hk), this]
    rfl
  · cases h
theorem wr_no {l : List (ByteArray × Nd)} {t : Nd} (h : mntP l t = none) : wrN (envA l) t = argsN t (t.args.map (wrN (envA l))) := by
  unfold mntP at h
  unfold wrN wrOne
  split at h
  · rename_i hk
    have := look_meant (l := l) (nm := t.name) (Nat.le_refl l.length)
    rw [List.take_length, h] at this
    simp only at this
    rw [if_pos (by simpa using hk), this, wrL_map]
    rfl
  · rename_i hk
    rw [if_neg (by simpa using hk), wrL_map]
    rfl
theorem sz_mnt {l : List (ByteArray × Nd)} {t : Nd} {i : Nat} (h : mntP l t = some i) : ∃ hi : i < l.length, szA (envA l) t = szA (envA (l.take i)) l[i].2 := by
  obtain ⟨hi, e⟩ := wr_mnt h
  refine ⟨hi, ?_⟩
  unfold szA
  rw [e]
  have h1 : ∀ (x : Nd) (k : ByteArray), cnt (keyN x k) = cnt x := fun _ _ => rfl
  have h2 : ∀ (x : Nd) (k : ByteArray), dep (keyN x k) = dep x := fun _ _ => rfl
  rw [h1, h2, mcnt_place, mdep_place]

def MsTo (l : List (ByteArray × Nd)) (N : Nat) : Prop := ∀ (t : Nd) (b o : Nat) (p : Option Addr) (c : Nat) (w : World), dep t ≤ N → cnt t ≤ 40000 → dep (wrN (envA l) t) ≤ 40000 → ScopeA w p l → NodeA w anyH b o t →
  Calls Try.prog 36 #[.slice p l.length c, .pointer (some ⟨b, o, none⟩)] w fun e w' => e = .returned (.agg #[.int .i64 (szA (envA l) t).1, .int .i64 (szA (envA l) t).2]) ∧ Below w.heap.size w w'

set_option maxRecDepth 100000 in
set_option maxHeartbeats 2000000 in
theorem ms_to (l : List (ByteArray × Nd)) (hl : l.length ≤ 40000) : ∀ N, MsTo l N := by
  intro N
  induction N with
  | zero => intro t b o p c w hd; unfold dep at hd; omega
  | succ N ih =>
    intro t b o p c w hd hc hdw hs hn
    have hme := fun (x : World) (k : Below w.heap.size w x) => smeant_any l p c b o t x hl (hs.below k) (hn.below k)
    have hlen : t.args.length ≤ 40000 := by have := cntL_len t.args; unfold cnt at hc; omega
    obtain ⟨n, hnn⟩ : ∃ n, t.args.length = n := ⟨_, rfl⟩
    have HN : Hid (t.args.length = n) := hnn
    have HSC : Hid (ScopeA w p l) := hs
    have HNO : Hid (NodeA w anyH b o t) := hn
    obtain ⟨W, hW, hX, hB⟩ := new_size w
    obtain ⟨Lk, hLk⟩ : ∃ Lk, l.length = Lk := ⟨_, rfl⟩
    have HLK : Hid (l.length = Lk) := hLk
    have HX : Hid (W.heap[w.heap.size]? = some (.cells #[.int .i64 0, .int .i64 0] 73)) := hX
    have HB : Hid (Below w.heap.size w W) := hB
    have HIH : Hid (∀ j (hj : j < t.args.length) (q r : Nat) (v : World), Below w.heap.size w v → NodeA v anyH q r t.args[j] → dep (wrN (envA l) t.args[j]) ≤ 40000 → Calls Try.prog 36 #[.slice p Lk c, .pointer (some ⟨q, r, none⟩)] v fun e w' => e = .returned (.agg #[.int .i64 (szA (envA l) t.args[j]).1, .int .i64 (szA (envA l) t.args[j]).2]) ∧ Below v.heap.size v w') := fun j hj q r v hv hnv hdv => by
      rw [← HLK.out]
      exact ih t.args[j] q r p c v (by have h1 := dep_get hj; unfold dep at hd; omega) (by have h1 := cnt_get hj; unfold cnt at hc; omega) hdv (HSC.out.below hv) hnv
    rw [hLk] at hl hme ⊢
    cases hm : mntP l t with
    | some i =>
      obtain ⟨hi, hsz⟩ := sz_mnt hm
      obtain ⟨bs, hp, x0, -, x2, x3⟩ := (hs.below hB) i hi
      subst hp
      rw [← hsz] at x2 x3
      obtain ⟨z1, hz1⟩ : ∃ z, (szA (envA l) t).1 = z := ⟨_, rfl⟩
      obtain ⟨z2, hz2⟩ : ∃ z, (szA (envA l) t).2 = z := ⟨_, rfl⟩
      rw [hz1] at x2 ⊢
      rw [hz2] at x3 ⊢
      have HM : Hid (∀ x, Below w.heap.size w x → Calls Try.prog 49 #[.slice (some ⟨bs, 0, none⟩) Lk c, .pointer (some ⟨b, o, none⟩)] x fun e w' => e = .returned (.tuple #[.int .i64 i, .bool true]) ∧ Below x.heap.size x w') := fun x k => by
        have := hme x k
        rw [hm] at this
        exact this
      have k0 : (0 : Int) ≤ (i : Int) := by omega
      have k1 : (i : Int) < (Lk : Int) := by rw [hLk] at hi; omega
      have HC2 : Hid (W.cell? ⟨bs, i * 4 + 2, none⟩ = some (.int .i64 z1)) := x2
      have HC3 : Hid (W.cell? ⟨bs, i * 4 + 3, none⟩ = some (.int .i64 z2)) := x3
      clear hme hm hs hn hnn hLk ih hd hc hdw hX hB hi hsz x0 x2 x3 hz1 hz2 HIH
      go_enter Try.func36, Try.ntmps36
      go_upto_region 3 with (go_at_call 49; (with_reducible refine (HM.out _ HB.out).mono ?_); rintro e w1 ⟨rfl, hb1⟩; have y2 := (hb1.cell (mcell_lt HC2.out)).trans HC2.out; have y3 := (hb1.cell (mcell_lt HC3.out)).trans HC3.out; obtain ⟨⟨u0, u1⟩, v0, v1⟩ := twoC ((hb1.block _ (hlt HX.out)).trans HX.out); have HB1 : Hid (Below w.heap.size w w1) := bel HB.out hb1; clear hb1)
      go_wp2
      refine bodyPost_ret (by simp [results, Try.results36, go_sem, *]; try rfl) rfl ?_
      exact ⟨by trivial, below_at (below_at HB1.out (Nat.le_refl _) _ _) (Nat.le_refl _) _ _⟩
    | none =>
      have hwr := wr_no hm
      have HM : Hid (∀ x, Below w.heap.size w x → Calls Try.prog 49 #[.slice p Lk c, .pointer (some ⟨b, o, none⟩)] x fun e w' => e = .returned (.tuple #[.int .i64 0, .bool false]) ∧ Below x.heap.size x w') := fun x k => by
        have := hme x k
        rw [hm] at this
        exact this
      obtain ⟨L, hL⟩ : ∃ L, t.args.map (wrN (envA l)) = L := ⟨_, rfl⟩
      have hLl : L.length = n := by rw [← hL, List.length_map, hnn]
      have HLG : Hid (∀ j (h : j < t.args.length) (h' : j < L.length), wrN (envA l) t.args[j] = L[j]) := fun j h h' => by subst hL; rw [List.getElem_map]
      rw [hL] at hwr
      have HSZ : Hid (szA (envA l) t = (((min (1 + cntL L) 4097 : Nat) : Int), ((depL L + 1 : Nat) : Int)) ∧ depL L + 1 ≤ 40000 ∧ L.length = n) := by
        refine ⟨?_, ?_, hLl⟩
        · unfold szA; rw [hwr]; rfl
        · rw [hwr] at hdw; exact hdw
      obtain ⟨-, -, -, -, -, -, sv, h5, hk⟩ := hn
      obtain ⟨q, d, rfl, -, hka⟩ := hk
      rw [hnn] at h5
      have HKA : Hid (t.args = [] ∨ ∃ b' o', q = some ⟨b', o', none⟩ ∧ KA w anyH b' o' t.args) := hka
      have H5 : Hid (w.cell? ⟨b, o + 5, none⟩ = some (.slice q n d)) := h5
      rw [hnn] at hlen
      clear hme hm hs hnn hLk ih hd hc hdw hX hB hwr hL hka h5 hLl HSC
      go_enter Try.func36, Try.ntmps36
      go_upto_region 4 with (go_at_call 49; (with_reducible refine (HM.out _ HB.out).mono ?_); rintro e w1 ⟨rfl, hb1⟩; have HB1 : Hid (Below w.heap.size w w1) := bel HB.out hb1; have HX1 : Hid (w1.heap[w.heap.size]? = some (.cells #[.int .i64 0, .int .i64 0] 73)) := (hb1.block _ (hlt HX.out)).trans HX.out; clear hb1)
      obtain ⟨W1, hW1, hY, hBY⟩ := new_size w1
      obtain ⟨⟨u0, u1⟩, v0, v1⟩ := twoC hY
      have HG : Hid (w.heap.size + 1 ≤ w1.heap.size) := hlt HX1.out
      have hXU := put_twoC hY (.int .i64 1) (.int .i64 1)
      have hBU : Below w.heap.size w ((W1.setCell ⟨w1.heap.size, 0, none⟩ (.int .i64 1)).setCell ⟨w1.heap.size, 1, none⟩ (.int .i64 1)) := below_at (below_at (bel HB1.out hBY) (by have := HG.out; omega) _ _) (by have := HG.out; omega) _ _
      have hRU : ((W1.setCell ⟨w1.heap.size, 0, none⟩ (.int .i64 1)).setCell ⟨w1.heap.size, 1, none⟩ (.int .i64 1)).heap[w.heap.size]? = some (.cells #[.int .i64 0, .int .i64 0] 73) := by
        rw [other_at (by have := HG.out; omega), other_at (by have := HG.out; omega), hBY.block _ (hlt HX1.out)]
        exact HX1.out
      go_upto_region 5 with fail
      obtain ⟨G, hG⟩ : ∃ G, w1.heap.size = G := ⟨_, rfl⟩
      obtain ⟨U, hU⟩ : ∃ U, ((W1.setCell ⟨w1.heap.size, 0, none⟩ (.int .i64 1)).setCell ⟨w1.heap.size, 1, none⟩ (.int .i64 1)) = U := ⟨_, rfl⟩
      rw [hU] at hXU hBU hRU ⊢
      rw [hG] at hXU HG ⊢
      have HXU : Hid (U.heap[G]? = some (.cells #[.int .i64 1, .int .i64 1] 73)) := hXU
      have HBU : Hid (Below w.heap.size w U) := hBU
      have HRU : Hid (U.heap[w.heap.size]? = some (.cells #[.int .i64 0, .int .i64 0] 73)) := hRU
      have x5 := (hBU.cell (mcell_lt H5.out)).trans H5.out
      clear hXU hBU hRU hU hG hW1 hY hBY u0 u1 v0 v1 HM
      go_wp2
      go_loopw [28] (fun iv wr => ∃ j : Nat, j ≤ n ∧ iv = .int .i64 j ∧ Hid (Below w.heap.size w wr ∧ wr.heap[w.heap.size]? = some (.cells #[.int .i64 0, .int .i64 0] 73) ∧ wr.heap[G]? = some (.cells #[.int .i64 (min (1 + cntL (L.take j)) 4097 : Nat), .int .i64 (depL (L.take j) + 1 : Nat)] 73))) (fun iv _ => n - (intOf iv).toNat)
      case atStart => exact ⟨0, Nat.zero_le _, rfl, HBU.out, HRU.out, by rw [List.take_zero, cntL_nil, depL_nil]; exact HXU.out⟩
      case round =>
        obtain ⟨j, hj, rfl, HS⟩ := hrel
        obtain ⟨hb, hr, hg⟩ := HS.out
        clear x5
        have x5 := (hb.cell (mcell_lt H5.out)).trans H5.out
        obtain ⟨A, hA⟩ : ∃ A : Int, ((min (1 + cntL (L.take j)) 4097 : Nat) : Int) = A := ⟨_, rfl⟩
        obtain ⟨D, hD⟩ : ∃ D : Int, ((depL (L.take j) + 1 : Nat) : Int) = D := ⟨_, rfl⟩
        rw [hA, hD] at hg
        have HA : Hid (((min (1 + cntL (L.take j)) 4097 : Nat) : Int) = A) := hA
        have HDD : Hid (((depL (L.take j) + 1 : Nat) : Int) = D) := hD
        have HBR : Hid (Below w.heap.size w wr) := hb
        have HRR : Hid (wr.heap[w.heap.size]? = some (.cells #[.int .i64 0, .int .i64 0] 73)) := hr
        have HGR : Hid (wr.heap[G]? = some (.cells #[.int .i64 A, .int .i64 D] 73)) := hg
        clear hb hr hg hA hD HS
        by_cases hlt0 : j < n
        · have hll : j < t.args.length := by rw [HN.out]; exact hlt0
          have hlL : j < L.length := by rw [HSZ.out.2.2]; exact hlt0
          obtain ⟨b', o', rfl, hka⟩ : ∃ b' o', q = some ⟨b', o', none⟩ ∧ KA w anyH b' o' t.args := by
            rcases HKA.out with e | e
            · rw [e] at hll; exact absurd hll (Nat.not_lt_zero _)
            · exact e
          have hnj := (KA_get hka hll).below HBR.out
          have hdj : dep L[j] ≤ 40000 := by have h1 := dep_get hlL; have := HSZ.out.2.1; omega
          have hwj := HLG.out j hll hlL
          have HC := HIH.out j hll b' (o' + j * 7) wr HBR.out hnj (by rw [hwj]; exact hdj)
          unfold szA at HC
          rw [hwj] at HC
          obtain ⟨X, hX⟩ : ∃ X : Int, ((min (cnt L[j]) 4097 : Nat) : Int) = X := ⟨_, rfl⟩
          obtain ⟨Y, hY⟩ : ∃ Y : Int, ((dep L[j] : Nat) : Int) = Y := ⟨_, rfl⟩
          rw [hX, hY] at HC
          have HCC : Hid (Calls Try.prog 36 #[.slice p Lk c, .pointer (some ⟨b', o' + j * 7, none⟩)] wr fun e w' => e = .returned (.agg #[.int .i64 X, .int .i64 Y]) ∧ Below wr.heap.size wr w') := HC
          have HNX : Hid (min (A + X) 4097 = ((min (1 + cntL (L.take (j + 1))) 4097 : Nat) : Int)) := by
            show min (A + X) 4097 = _
            rw [cntL_take hlL, ← hX, ← HA.out]
            omega
          have HNY : Hid (max D (Y + 1) = ((depL (L.take (j + 1)) + 1 : Nat) : Int)) := by
            show max D (Y + 1) = _
            rw [depL_take hlL, ← hY, ← HDD.out]
            omega
          have i1 : (0 : Int) ≤ (j : Int) := by omega
          have i2 : (j : Int) < (n : Int) := by omega
          have hw1 : IntKind.i64.wrap (A + X) = A + X := by rw [IntKind.wrap_i64, ← hX, ← HA.out]; omega
          have hw2 : IntKind.i64.wrap (Y + 1) = Y + 1 := by rw [IntKind.wrap_i64, ← hY]; omega
          clear HC hka hnj hdj hwj hX hY HIH HLG HKA HSZ HXU HBU HRU HX1 HB1 HA HDD HNO
          go_upto_region 9 with (go_at_call 36; (with_reducible refine HCC.out.mono ?_); rintro e w3 ⟨rfl, hb3⟩; obtain ⟨W3, hW3, hX3, hB3⟩ := new_size w3; obtain ⟨⟨u0, u1⟩, v0, v1⟩ := twoC hX3)
          have HGL : Hid (G < wr.heap.size ∧ w.heap.size < wr.heap.size) := ⟨hlt HGR.out, hlt HRR.out⟩
          have hXU := put_twoC hX3 (.int .i64 X) (.int .i64 Y)
          have hsz3 : wr.heap.size ≤ w3.heap.size := hb3.size
          have hBU : Below wr.heap.size wr ((W3.setCell ⟨w3.heap.size, 0, none⟩ (.int .i64 X)).setCell ⟨w3.heap.size, 1, none⟩ (.int .i64 Y)) := below_at (below_at (bel hb3 hB3) hsz3 _ _) hsz3 _ _
          obtain ⟨E, hE⟩ : ∃ E, w3.heap.size = E := ⟨_, rfl⟩
          obtain ⟨U3, hU⟩ : ∃ U, ((W3.setCell ⟨w3.heap.size, 0, none⟩ (.int .i64 X)).setCell ⟨w3.heap.size, 1, none⟩ (.int .i64 Y)) = U := ⟨_, rfl⟩
          rw [hU] at hXU hBU ⊢
          rw [hE] at hXU hsz3 ⊢
          have hgU := (hBU.block G HGL.out.1).trans HGR.out
          have hrU := (hBU.block w.heap.size HGL.out.2).trans HRR.out
          have HBU3 : Hid (Below w.heap.size w U3) := bel HBR.out hBU
          have HXU3 : Hid (U3.heap[E]? = some (.cells #[.int .i64 X, .int .i64 Y] 73)) := hXU
          have HGU3 : Hid (U3.heap[G]? = some (.cells #[.int .i64 A, .int .i64 D] 73)) := hgU
          have HRU3 : Hid (U3.heap[w.heap.size]? = some (.cells #[.int .i64 0, .int .i64 0] 73)) := hrU
          have HGE : Hid (G < E) := by have := HGL.out.1; show G < E; omega
          clear u0 u1 v0 v1
          obtain ⟨⟨s0, s1⟩, -⟩ := twoC hXU
          obtain ⟨⟨g0, g1⟩, f0, f1⟩ := twoC hgU
          clear hXU hBU hgU hrU hU hE hW3 hX3 hB3 hb3 HCC x5
          go_upto_region 10 with fail
          obtain ⟨A2, hA2⟩ : ∃ A2, min (A + X) 4097 = A2 := ⟨_, rfl⟩
          rw [hA2] at HNX ⊢
          have hg4 : (U3.setCell ⟨G, 0, none⟩ (.int .i64 A2)).heap[G]? = some (.cells #[.int .i64 A2, .int .i64 D] 73) := by
            have := heap_setAt HGU3.out 0 (.int .i64 A2)
            simpa using this
          have he4 : (U3.setCell ⟨G, 0, none⟩ (.int .i64 A2)).heap[E]? = some (.cells #[.int .i64 X, .int .i64 Y] 73) := by
            rw [other_at (by have := HGE.out; omega)]; exact HXU3.out
          have hr4 : (U3.setCell ⟨G, 0, none⟩ (.int .i64 A2)).heap[w.heap.size]? = some (.cells #[.int .i64 0, .int .i64 0] 73) := by
            rw [other_at (by have := HG.out; omega)]; exact HRU3.out
          have hb4 : Below w.heap.size w (U3.setCell ⟨G, 0, none⟩ (.int .i64 A2)) := below_at HBU3.out (by have := HG.out; omega) _ _
          obtain ⟨U4, hU4⟩ : ∃ U, U3.setCell ⟨G, 0, none⟩ (.int .i64 A2) = U := ⟨_, rfl⟩
          rw [hU4] at hg4 he4 hr4 hb4 ⊢
          have HG4 : Hid (U4.heap[G]? = some (.cells #[.int .i64 A2, .int .i64 D] 73)) := hg4
          have HR4 : Hid (U4.heap[w.heap.size]? = some (.cells #[.int .i64 0, .int .i64 0] 73)) := hr4
          have HB4 : Hid (Below w.heap.size w U4) := hb4
          clear s0 s1 g0 g1 f0 f1
          obtain ⟨⟨s0, s1⟩, -⟩ := twoC he4
          obtain ⟨⟨g0, g1⟩, f0, f1⟩ := twoC hg4
          clear hU4 hA2 hg4 he4 hr4 hb4 HBU3 HXU3 HGU3 HRU3
          go_upto_region 11 with fail
          obtain ⟨D2, hD2⟩ : ∃ D2, max D (Y + 1) = D2 := ⟨_, rfl⟩
          rw [hD2] at HNY ⊢
          have hg5 : (U4.setCell ⟨G, 1, none⟩ (.int .i64 D2)).heap[G]? = some (.cells #[.int .i64 A2, .int .i64 D2] 73) := by
            have := heap_setAt HG4.out 1 (.int .i64 D2)
            simpa using this
          have hr5 : (U4.setCell ⟨G, 1, none⟩ (.int .i64 D2)).heap[w.heap.size]? = some (.cells #[.int .i64 0, .int .i64 0] 73) := by
            rw [other_at (by have := HG.out; omega)]; exact HR4.out
          have hb5 : Below w.heap.size w (U4.setCell ⟨G, 1, none⟩ (.int .i64 D2)) := below_at HB4.out (by have := HG.out; omega) _ _
          obtain ⟨U5, hU5⟩ : ∃ U, U4.setCell ⟨G, 1, none⟩ (.int .i64 D2) = U := ⟨_, rfl⟩
          rw [hU5] at hg5 hr5 hb5 ⊢
          have HS5 : Hid (Below w.heap.size w U5 ∧ U5.heap[w.heap.size]? = some (.cells #[.int .i64 0, .int .i64 0] 73) ∧ U5.heap[G]? = some (.cells #[.int .i64 (min (1 + cntL (L.take (j + 1))) 4097 : Nat), .int .i64 (depL (L.take (j + 1)) + 1 : Nat)] 73)) := ⟨hb5, hr5, by rw [← HNX.out, ← HNY.out]; exact hg5⟩
          clear s0 s1 g0 g1 f0 f1 hg5 hr5 hb5 hU5 HG4 HR4 HB4 hD2 HNX HNY
          go_wp2
          go_roundw
          case rel => exact ⟨j + 1, by omega, by go_num, HS5.out⟩
          case measure => simp [intOf]; omega
        · have : j = n := by omega
          subst this
          have i2 : ¬ ((j : Int) < (j : Int)) := by omega
          obtain ⟨⟨g0, g1⟩, -⟩ := twoC HGR.out
          obtain ⟨⟨r0, r1⟩, f0, f1⟩ := twoC HRR.out
          have HF : Hid (szA (envA l) t = (A, D)) := by
            have := HSZ.out
            show szA (envA l) t = (A, D)
            rw [this.1, ← HA.out, ← HDD.out, List.take_of_length_le (Nat.le_of_eq this.2.2)]
          clear x5 HKA HIH HLG HSZ HA HDD HXU HBU HRU
          go_wp2
          refine bodyPost_ret (by simp [results, Try.results36, go_sem, *]; try rfl) rfl ?_
          exact ⟨by rw [HF.out], below_at (below_at HBR.out (Nat.le_refl _) _ _) (Nat.le_refl _) _ _⟩

end Go.Proofs.Ytbmkddmmclndcaa
