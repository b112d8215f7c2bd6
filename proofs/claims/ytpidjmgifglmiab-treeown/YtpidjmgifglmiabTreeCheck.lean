import Derived.Test.YtpidjmgifglmiabTreeJudge
import Derived.Test.YtpidjmgifglmiabTreeAsk
/- Package tree: judge, measure, Check; Depth. -/
namespace Go.Proofs.Ytpidjmgifglmiab
open Go.RowKit
set_option linter.unusedVariables false
set_option linter.unusedSimpArgs false

/-- The walk of a tree that lies there. -/
theorem walk_top {σ : Type} {k : Nat} {cap : Array Value} {g : σ → Nd → Int → Option Nd → Bool × σ} {I : Nat → σ → World → Prop} (W : World) (t : Nd) (b o : Nat) (hc : cnt t ≤ 9000) (hok : ok1 t) (hn : NodeA W anyH b o t) (s : σ)
    (H : Looks k cap g (RT W.heap.size) (LT W) I) (v : World) (hI : I (cnt t) s v) (hv : Below W.heap.size W v) :
    Calls Try.prog 22 #[.pointer (some ⟨b, o, none⟩), .agg #[.int .i64 1, .pointer none], .func (.func k) #[] cap] v fun e v' => e = .returned (.bool (wk g t 1 none s).1) ∧ I 0 (wk g t 1 none s).2 v' ∧ Below W.heap.size W v' :=
  (walk_any H (dep t) t 0 s v b o 1 none none (Nat.le_refl _) hc (by decide) (by have := dep_cnt t; omega) (by rw [Nat.zero_add]; exact hI) ⟨hn, ⟨hok, hc⟩, hv⟩ (.inl ⟨rfl, rfl⟩)).mono fun e v' ⟨he, hi, hr⟩ => ⟨he, hi, hv.trans (hr.1 hv.size)⟩

/-- How deep. -/
def gDepth : Int → Nd → Int → Option Nd → Bool × Int := fun s _ d _ => (true, max s d)
def ICell (C : Nat) (t : TypeId) (m : Nat) (s : Int) (w : World) : Prop := w.heap[C]? = some (.cells #[.int .i64 s] t)
theorem ICell.below {C : Nat} {t : TypeId} {m : Nat} {s : Int} {w w' : World} (h : ICell C t m s w) (k : Below w.heap.size w w') : ICell C t m s w' := by
  unfold ICell at *
  rw [k.block C (hlt h)]; exact h

set_option maxHeartbeats 400000 in
theorem depth1_any (W : World) (C : Nat) (hC : W.heap.size ≤ C) (m : Nat) (s : Int) (w : World) (b o : Nat) (t : Nd) (d : Int) (av : Option Addr) (u : Option Nd) (hI : ICell C 3 (m + 1) s w) :
    Calls Try.prog 31 (#[.pointer (some ⟨b, o, none⟩), .agg #[.int .i64 d, .pointer av]] ++ #[.pointer (some ⟨C, 0, none⟩)]) w fun e w' => e = .returned (.bool (gDepth s t d u).1) ∧ ICell C 3 m (gDepth s t d u).2 w' ∧ RT W.heap.size w w' := by
  unfold ICell at hI
  have g1 := heap_old w (.cells #[.int .i64 d, .pointer av] 47) hI
  obtain ⟨c1, f1⟩ := one_cell g1
  show Calls Try.prog 31 #[.pointer (some ⟨b, o, none⟩), .agg #[.int .i64 d, .pointer av], .pointer (some ⟨C, 0, none⟩)] w _
  have G1 : Hid ((w.alloc (.cells #[.int .i64 d, .pointer av] 47)).heap[C]? = some (.cells #[.int .i64 s] 3)) := g1
  clear g1 hI
  unfold gDepth
  go_enter Try.func31, Try.ntmps31
  go_wp2
  all_goals (
    go_ret
    refine ⟨rfl, ?_, (RT.below (bel_alloc w _)).trans (RT.set G1.out hC _)⟩
    refine (heap_set G1.out _).trans ?_
    congr 5
    first | omega | (trace_state; fail))

theorem wkL_depth (l : List Nd) : ∀ (d : Int) (u : Option Nd) (s : Int), d - 1 ≤ s → wkL gDepth l d u s = (true, max s (d - 1 + depL l)) := by
  apply forest (P := fun l => ∀ (d : Int) (u : Option Nd) (s : Int), d - 1 ≤ s → wkL gDepth l d u s = (true, max s (d - 1 + depL l)))
  · intro d u s h; rw [wkL_nil, depL_nil]; congr 1; omega
  · intro t r h1 h2 d u s h
    rw [wkL_cons, depL_cons]
    have e : wk gDepth t d u s = (true, max s (d - 1 + dep t)) := by
      unfold wk
      rw [show gDepth s t d u = (true, max s d) from rfl]
      rw [if_pos rfl, h1 _ _ _ (by omega)]
      unfold dep
      congr 1
      omega
    rw [e, if_pos rfl, h2 _ _ _ (by omega)]
    congr 1
    omega
theorem wk_depth (t : Nd) (u : Option Nd) : wk gDepth t 1 u 0 = (true, (dep t : Int)) := by
  rw [← wkL_one, wkL_depth _ _ _ _ (by decide), depL_one]
  congr 1
  omega

set_option maxHeartbeats 1000000 in
theorem depth_any (t : Nd) (sv : Value) (w : World) (hc : cnt t ≤ 9000) (hok : ok1 t) (hk : Kids w anyH sv t.args) :
    Calls Try.prog 19 #[nv t sv] w fun e w' => e = .returned (.int .i64 (dep t)) ∧ Below w.heap.size w w' := by
  have hn := box_node w t sv hk
  have HC : Hid (∀ v : World, ICell (w.heap.size + 1) 3 (cnt t) 0 v → Below (w.heap.size + 1) (w.alloc (.cells #[.int .i64 t.kind, .string t.name, .int .u32 t.num, .int .i64 t.int_, .string t.key, sv, .int .i64 t.at_] 26)) v → Calls Try.prog 22 #[.pointer (some ⟨w.heap.size, 0, none⟩), .agg #[.int .i64 1, .pointer none], .func (.func 31) #[] #[.pointer (some ⟨w.heap.size + 1, 0, none⟩)]] v fun e v' => e = .returned (.bool true) ∧ v'.cell? ⟨w.heap.size + 1, 0, none⟩ = some (.int .i64 (dep t)) ∧ Below w.heap.size w v') := fun v hI hv => by
    have hbW := bel_alloc w (.cells #[.int .i64 t.kind, .string t.name, .int .u32 t.num, .int .i64 t.int_, .string t.key, sv, .int .i64 t.at_] 26)
    obtain ⟨W, hW⟩ : ∃ W, w.alloc (.cells #[.int .i64 t.kind, .string t.name, .int .u32 t.num, .int .i64 t.int_, .string t.key, sv, .int .i64 t.at_] 26) = W := ⟨_, rfl⟩
    have hs : W.heap.size = w.heap.size + 1 := by rw [← hW]; simp
    rw [hW] at hn hbW hv
    rw [← hs] at hI hv ⊢
    have := walk_top W t w.heap.size 0 hc hok hn 0 (looks_of W (enters_of Try.func31 (by kernel_rfl) rfl) (fun m s w w' h k => h.below k) (fun m m' s w hm h => h) (fun m s w b o t d av u hI _ _ => depth1_any W W.heap.size (Nat.le_refl _) m s w b o t d av u hI)) v hI hv
    rw [wk_depth] at this
    exact this.mono fun e v' ⟨he, hi, hr⟩ => ⟨he, (one_cell hi).1, hbW.trans (hr.mono (by omega))⟩
  clear hn hok hk
  unfold nv
  go_enter Try.func19, Try.ntmps19
  go_wp2_with (first
    | (go_at_call 23; refine (top_any _).mono ?_; rintro e w2 ⟨rfl, hb2⟩; have hI2 : ICell (w.heap.size + 1) 3 (cnt t) 0 w2 := ICell.below (m := cnt t) (two_heap _ _ _) hb2; have hB2 := two_below hb2)
    | (go_at_call 22; (with_reducible refine (HC.out _ hI2 hB2).mono ?_); rintro e w3 ⟨rfl, hc3, hb3⟩))
  go_ret
  exact ⟨rfl, hb3⟩

/-- measure: too deep, too many. -/
def gMeas : Int → Nd → Int → Option Nd → Bool × Int := fun s _ d _ => (decide (d ≤ 64), s + 1)
set_option maxHeartbeats 400000 in
theorem measure1_any (W : World) (C : Nat) (hC : W.heap.size ≤ C) (m : Nat) (s : Int) (w : World) (b o : Nat) (t : Nd) (d : Int) (av : Option Addr) (u : Option Nd) (hI : ICount C (m + 1) s w) :
    Calls Try.prog 34 (#[.pointer (some ⟨b, o, none⟩), .agg #[.int .i64 d, .pointer av]] ++ #[.pointer (some ⟨C, 0, none⟩)]) w fun e w' => e = .returned (.bool (gMeas s t d u).1) ∧ ICount C m (gMeas s t d u).2 w' ∧ RT W.heap.size w w' := by
  obtain ⟨h0, h1, h2⟩ := hI
  have g1 := heap_old w (.cells #[.int .i64 d, .pointer av] 47) h2
  obtain ⟨c1, f1⟩ := one_cell g1
  have hne : w.heap.size ≠ C := by have := hlt h2; omega
  show Calls Try.prog 34 #[.pointer (some ⟨b, o, none⟩), .agg #[.int .i64 d, .pointer av], .pointer (some ⟨C, 0, none⟩)] w _
  have G1 : Hid ((w.alloc (.cells #[.int .i64 d, .pointer av] 47)).heap[C]? = some (.cells #[.int .i64 s] 3)) := g1
  clear g1 h2
  go_enter Try.func34, Try.ntmps34
  go_wp2
  go_ret
  refine ⟨rfl, ⟨?_, ?_, ?_⟩, (RT.below (bel_alloc w _)).trans (RT.set G1.out hC _)⟩
  · show 0 ≤ s + 1; omega
  · show s + 1 + m ≤ 9000; omega
  · exact heap_set G1.out _

theorem wkL_meas (l : List Nd) : ∀ (d : Int) (u : Option Nd) (s : Int), (d - 1 + depL l ≤ 64 → wkL gMeas l d u s = (true, s + cntL l)) ∧ (d ≤ 65 → 64 < d - 1 + depL l → (wkL gMeas l d u s).1 = false) := by
  apply forest (P := fun l => ∀ (d : Int) (u : Option Nd) (s : Int), (d - 1 + depL l ≤ 64 → wkL gMeas l d u s = (true, s + cntL l)) ∧ (d ≤ 65 → 64 < d - 1 + depL l → (wkL gMeas l d u s).1 = false))
  · intro d u s
    rw [wkL_nil, depL_nil, cntL_nil]
    refine ⟨fun _ => by simp, fun h1 h2 => ?_⟩
    omega
  · intro t r h1 h2 d u s
    rw [wkL_cons, depL_cons, cntL_cons]
    have e1 : d - 1 + dep t ≤ 64 → wk gMeas t d u s = (true, s + cnt t) := fun h => by
      unfold dep at h
      unfold wk
      rw [show gMeas s t d u = (decide (d ≤ 64), s + 1) from rfl]
      rw [if_pos (by rw [decide_eq_true_iff]; omega), (h1 _ _ _).1 (by omega)]
      unfold cnt
      congr 1
      push_cast
      omega
    have e2 : d ≤ 65 → 64 < d - 1 + dep t → (wk gMeas t d u s).1 = false := fun h h' => by
      unfold dep at h'
      unfold wk
      rw [show gMeas s t d u = (decide (d ≤ 64), s + 1) from rfl]
      by_cases c : d ≤ 64
      · rw [if_pos (by rw [decide_eq_true_iff]; exact c)]
        exact (h1 _ _ _).2 (by omega) (by omega)
      · rw [if_neg (by rw [decide_eq_true_iff]; exact c)]
    constructor
    · intro h
      rw [e1 (by omega), if_pos rfl, (h2 _ _ _).1 (by omega)]
      congr 1
      push_cast
      omega
    · intro h h'
      by_cases c : 64 < d - 1 + dep t
      · rw [e2 h c, if_neg (by decide)]
      · rw [e1 (by omega), if_pos rfl]
        exact (h2 _ _ _).2 h (by omega)
theorem wk_meas (t : Nd) (u : Option Nd) : (dep t ≤ 64 → wk gMeas t 1 u 0 = (true, (cnt t : Int))) ∧ (64 < dep t → (wk gMeas t 1 u 0).1 = false) := by
  rw [← wkL_one]
  have := wkL_meas [t] 1 u 0
  rw [depL_one, cntL_one] at this
  exact ⟨fun h => by rw [this.1 (by omega)]; simp, fun h => this.2 (by decide) (by omega)⟩

def measP (t : Nd) : Int := if 64 < dep t then 81 else if 4096 < cnt t then 82 else 0

set_option maxHeartbeats 1000000 in
theorem measure_any (t : Nd) (b o : Nat) (w : World) (hc : cnt t ≤ 9000) (hok : ok1 t) (hn : NodeA w anyH b o t) :
    Calls Try.prog 27 #[.pointer (some ⟨b, o, none⟩)] w fun e w' => e = .returned (.int .i64 (measP t)) ∧ Below w.heap.size w w' := by
  have HC : Hid (∀ v : World, ICount w.heap.size (cnt t) 0 v → Below w.heap.size w v → Calls Try.prog 22 #[.pointer (some ⟨b, o, none⟩), .agg #[.int .i64 1, .pointer none], .func (.func 34) #[] #[.pointer (some ⟨w.heap.size, 0, none⟩)]] v fun e v' => e = .returned (.bool (wk gMeas t 1 none 0).1) ∧ v'.cell? ⟨w.heap.size, 0, none⟩ = some (.int .i64 (wk gMeas t 1 none 0).2) ∧ Below w.heap.size w v') := fun v hI hv => by
    have := walk_top w t b o hc hok hn 0 (looks_of w (enters_of Try.func34 (by kernel_rfl) rfl) (fun m s w w' h k => h.below k) (fun m m' s w hm h => ⟨h.1, by have := h.2.1; omega, h.2.2⟩) (fun m s v b o t d av u hI _ _ => measure1_any w w.heap.size (Nat.le_refl _) m s v b o t d av u hI)) v hI hv
    exact this.mono fun e v' ⟨he, hi, hr⟩ => ⟨he, (one_cell hi.2.2).1, hr⟩
  obtain ⟨r, s, hrs⟩ : ∃ r s, wk gMeas t 1 none 0 = (r, s) := ⟨_, _, rfl⟩
  have hM : measP t = if r then (if 4096 < s then 82 else 0) else 81 := by
    unfold measP
    by_cases c : 64 < dep t
    · have := (wk_meas t none).2 c
      rw [hrs] at this
      have : r = false := this
      rw [if_pos c, this]; rfl
    · have := (wk_meas t none).1 (by omega)
      rw [hrs] at this
      cases this
      rw [if_neg c, if_pos rfl]
      by_cases c2 : 4096 < cnt t
      · rw [if_pos c2, if_pos (by omega)]
      · rw [if_neg c2, if_neg (by omega)]
  rw [hrs] at HC
  rw [hM]
  clear hrs hM hn hok
  go_enter Try.func27, Try.ntmps27
  go_wp2_with (first
    | (go_at_call 23; refine (top_any _).mono ?_; rintro e w2 ⟨rfl, hb2⟩; have hI2 : ICount w.heap.size (cnt t) 0 w2 := ICount.below ⟨by omega, by omega, box_heap _ _⟩ hb2; have hB2 := bel (bel_alloc w _) hb2)
    | (go_at_call 22; (with_reducible refine (HC.out _ hI2 hB2).mono ?_); rintro e w3 ⟨rfl, hc3, hb3⟩))
  all_goals (go_ret; refine ⟨ret_int ?_, hb3⟩; simp_all)

/-- Check's own walk. -/
def gCheck : Int → Nd → Int → Option Nd → Bool × Int := fun _ t _ u => (judgeP t u == 0, judgeP t u)
def checkP (t : Nd) : Int := if measP t = 0 then (wk gCheck t 1 none 0).2 else measP t

set_option maxRecDepth 100000 in
set_option maxHeartbeats 2000000 in
theorem judge_none (b o : Nat) (t : Nd) (w : World) (hc : cnt t ≤ 9000) (hok : ok1 t) (hn : NodeA w anyH b o t) :
    Calls Try.prog 29 #[.pointer (some ⟨b, o, none⟩), .pointer none] w fun e w' => e = .returned (.int .i64 (judgeP t none)) ∧ Below w.heap.size w w' := by
  have HK : Hid (∀ v, Below w.heap.size w v → Calls Try.prog 36 #[.pointer (some ⟨b, o, none⟩)] v fun e v' => e = .returned (.bool (kindP t)) ∧ Below v.heap.size v v' ∧ v'.cell? ⟨b, o, none⟩ = some (.int .i64 t.kind)) := fun v hv =>
    (kindMayBe_any b o t v hc hok (hn.below hv)).mono fun e v' ⟨he, hb⟩ => ⟨he, hb, ((hn.below hv).below hb).1⟩
  obtain ⟨e0, e1, -, -, e4, -, -⟩ := hn
  obtain ⟨⟨s1, s2, -, -⟩, -⟩ := hok
  clear hc
  unfold judgeP keyP standsP
  simp only
  obtain ⟨kp, hkp⟩ : ∃ kp, kindP t = kp := ⟨_, rfl⟩
  rw [hkp] at HK ⊢
  clear hkp
  obtain ⟨k, nm, x, i, y, l, a⟩ := t
  simp only at *
  by_cases z1 : 64 < nm.size
  · rw [if_pos (.inl z1)]
    go_enter Try.func29, Try.ntmps29
    go_wp2
    go_ret
    exact ⟨rfl, bel0 _⟩
  by_cases z2 : 64 < y.size
  · rw [if_pos (.inr z2)]
    go_enter Try.func29, Try.ntmps29
    go_wp2
    go_ret
    exact ⟨rfl, bel0 _⟩
  rw [if_neg (by omega)]
  go_enter Try.func29, Try.ntmps29
  go_wp2_with (first
    | (go_at_call 35; refine (keyMayBe_none _ _).mono ?_; rintro e w1 ⟨rfl, rfl⟩)
    | (go_at_call 36; refine (HK.out _ (bel0 _)).mono ?_; rintro e w2 ⟨rfl, hb2, c2⟩)
    | (go_at_call 37; refine (standsWell_none _ _ _ _ c2).mono ?_; rintro e w3 ⟨rfl, rfl⟩))
  all_goals (go_ret; refine ⟨ret_int ?_, (by first | exact hb2 | exact bel0 _)⟩; simp_all)

set_option maxRecDepth 100000 in
set_option maxHeartbeats 2000000 in
theorem judge_some (b o : Nat) (t : Nd) (b' o' : Nat) (u : Nd) (w : World) (hc : cnt t ≤ 9000) (hok : ok1 t) (hn : NodeA w anyH b o t) (hu : NodeA w anyH b' o' u) :
    Calls Try.prog 29 #[.pointer (some ⟨b, o, none⟩), .pointer (some ⟨b', o', none⟩)] w fun e w' => e = .returned (.int .i64 (judgeP t (some u))) ∧ Below w.heap.size w w' := by
  have HK : Hid (∀ v, Below w.heap.size w v → Calls Try.prog 36 #[.pointer (some ⟨b, o, none⟩)] v fun e v' => e = .returned (.bool (kindP t)) ∧ Below v.heap.size v v' ∧ v'.cell? ⟨b, o, none⟩ = some (.int .i64 t.kind) ∧ v'.cell? ⟨b', o', none⟩ = some (.int .i64 u.kind)) := fun v hv =>
    (kindMayBe_any b o t v hc hok (hn.below hv)).mono fun e v' ⟨he, hb⟩ => ⟨he, hb, ((hn.below hv).below hb).1, ((hu.below hv).below hb).1⟩
  obtain ⟨e0, e1, -, -, e4, -, -⟩ := hn
  have u0 := hu.1
  obtain ⟨⟨s1, s2, -, -⟩, -⟩ := hok
  clear hc hu
  unfold judgeP keyP standsP
  simp only
  obtain ⟨kp, hkp⟩ : ∃ kp, kindP t = kp := ⟨_, rfl⟩
  rw [hkp] at HK ⊢
  clear hkp
  obtain ⟨k, nm, x, i, y, l, a⟩ := t
  obtain ⟨k', nm', x', i', y', l', a'⟩ := u
  simp only at *
  by_cases z1 : 64 < nm.size
  · rw [if_pos (.inl z1)]
    go_enter Try.func29, Try.ntmps29
    go_wp2
    go_ret
    exact ⟨rfl, bel0 _⟩
  by_cases z2 : 64 < y.size
  · rw [if_pos (.inr z2)]
    go_enter Try.func29, Try.ntmps29
    go_wp2
    go_ret
    exact ⟨rfl, bel0 _⟩
  rw [if_neg (by omega)]
  have KY := keyMayBe_some y s2 b' o'
  obtain ⟨kq, hkq⟩ : ∃ kq, (y.toList.isEmpty || nameP y) = kq := ⟨_, rfl⟩
  rw [hkq] at KY ⊢
  have HY : Hid (∀ w, Calls Try.prog 35 #[.string y, .pointer (some ⟨b', o', none⟩)] w fun e w' => e = .returned (.bool kq) ∧ w' = w) := KY
  clear KY hkq
  cases kq <;> cases kp
  all_goals (
    go_enter Try.func29, Try.ntmps29
    go_wp2_with (first
      | (go_at_call 35; refine (HY.out _).mono ?_; rintro e w1 ⟨rfl, rfl⟩)
      | (go_at_call 36; refine (HK.out _ (bel0 _)).mono ?_; rintro e w2 ⟨rfl, hb2, c2, c3⟩)
      | (go_at_call 37; refine (standsWell_some _ _ _ _ _ _ _ c2 c3).mono ?_; rintro e w3 ⟨rfl, rfl⟩))
    all_goals (go_ret; refine ⟨ret_int ?_, (by first | exact hb2 | exact bel0 _)⟩; simp_all))

set_option maxHeartbeats 1000000 in
theorem check1_any (W : World) (C : Nat) (hC : W.heap.size ≤ C) (m : Nat) (s : Int) (w : World) (b o : Nat) (t : Nd) (d : Int) (av : Option Addr) (u : Option Nd) (hI : ICell C 41 (m + 1) s w) (hL : LT W w b o t) (hA : Ab (LT W) w av u) :
    Calls Try.prog 28 (#[.pointer (some ⟨b, o, none⟩), .agg #[.int .i64 d, .pointer av]] ++ #[.pointer (some ⟨C, 0, none⟩)]) w fun e w' => e = .returned (.bool (gCheck s t d u).1) ∧ ICell C 41 m (gCheck s t d u).2 w' ∧ RT W.heap.size w w' := by
  unfold ICell at hI
  have g1 := heap_old w (.cells #[.int .i64 d, .pointer av] 47) hI
  have HJ : Hid (Calls Try.prog 29 #[.pointer (some ⟨b, o, none⟩), .pointer av] (w.alloc (.cells #[.int .i64 d, .pointer av] 47)) fun e w' => e = .returned (.int .i64 (judgeP t u)) ∧ RT W.heap.size w w' ∧ w'.heap[C]? = some (.cells #[.int .i64 s] 41)) := by
    have hb := bel_alloc w (.cells #[.int .i64 d, .pointer av] 47)
    rcases hA with ⟨rfl, rfl⟩ | ⟨b', o', u', rfl, rfl, hu⟩
    · exact (judge_none b o t _ hL.2.1.2 hL.2.1.1 (hL.node.below hb)).mono fun e w' ⟨he, h⟩ => ⟨he, RT.below (bel hb h), by rw [h.block C (hlt g1)]; exact g1⟩
    · exact (judge_some b o t b' o' u' _ hL.2.1.2 hL.2.1.1 (hL.node.below hb) (hu.node.below hb)).mono fun e w' ⟨he, h⟩ => ⟨he, RT.below (bel hb h), by rw [h.block C (hlt g1)]; exact g1⟩
  show Calls Try.prog 28 #[.pointer (some ⟨b, o, none⟩), .agg #[.int .i64 d, .pointer av], .pointer (some ⟨C, 0, none⟩)] w _
  unfold gCheck
  obtain ⟨j, hj⟩ : ∃ j, judgeP t u = j := ⟨_, rfl⟩
  simp only
  rw [hj] at HJ ⊢
  clear g1 hI hL hA hj
  go_enter Try.func28, Try.ntmps28
  go_wp2_with (go_at_call 29; (with_reducible refine HJ.out.mono ?_); rintro e w1 ⟨rfl, hr1, hx1⟩; obtain ⟨c1, f1⟩ := one_cell hx1; have HX : Hid (w1.heap[C]? = some (.cells #[.int .i64 s] 41)) := hx1; clear hx1)
  go_ret
  exact ⟨rfl, heap_set HX.out _, hr1.trans (RT.set HX.out hC _)⟩

set_option maxHeartbeats 1000000 in
theorem check_any (t : Nd) (sv : Value) (w : World) (hc : cnt t ≤ 9000) (hok : ok1 t) (hk : Kids w anyH sv t.args) :
    Calls Try.prog 17 #[nv t sv] w fun e w' => e = .returned (.int .i64 (checkP t)) ∧ Below w.heap.size w w' := by
  have hn := box_node w t sv hk
  have hbW := bel_alloc w (.cells #[.int .i64 t.kind, .string t.name, .int .u32 t.num, .int .i64 t.int_, .string t.key, sv, .int .i64 t.at_] 26)
  obtain ⟨W, hW⟩ : ∃ W, w.alloc (.cells #[.int .i64 t.kind, .string t.name, .int .u32 t.num, .int .i64 t.int_, .string t.key, sv, .int .i64 t.at_] 26) = W := ⟨_, rfl⟩
  have hs : W.heap.size = w.heap.size + 1 := by rw [← hW]; simp
  have HM : Hid (Calls Try.prog 27 #[.pointer (some ⟨w.heap.size, 0, none⟩)] (w.alloc (.cells #[.int .i64 t.kind, .string t.name, .int .u32 t.num, .int .i64 t.int_, .string t.key, sv, .int .i64 t.at_] 26)) fun e v => e = .returned (.int .i64 (measP t)) ∧ NodeA v anyH w.heap.size 0 t ∧ Below w.heap.size w v) :=
    (measure_any t w.heap.size 0 _ hc hok hn).mono fun e v ⟨he, hb⟩ => ⟨he, hn.below hb, bel hbW hb⟩
  have HC : Hid (∀ V v : World, NodeA V anyH w.heap.size 0 t → ICell V.heap.size 41 (cnt t) 0 v → Below V.heap.size V v → Calls Try.prog 22 #[.pointer (some ⟨w.heap.size, 0, none⟩), .agg #[.int .i64 1, .pointer none], .func (.func 28) #[] #[.pointer (some ⟨V.heap.size, 0, none⟩)]] v fun e v' => e = .returned (.bool (wk gCheck t 1 none 0).1) ∧ v'.cell? ⟨V.heap.size, 0, none⟩ = some (.int .i64 (wk gCheck t 1 none 0).2) ∧ Below V.heap.size V v') := fun V v hn hI hv => by
    have := walk_top V t w.heap.size 0 hc hok hn 0 (looks_of V (enters_of Try.func28 (by kernel_rfl) rfl) (fun m s w w' h k => h.below k) (fun m m' s w hm h => h) (fun m s v b o t d av u hI hL hA => check1_any V V.heap.size (Nat.le_refl _) m s v b o t d av u hI hL hA)) v hI hv
    exact this.mono fun e v' ⟨he, hi, hr⟩ => ⟨he, (one_cell hi).1, hr⟩
  unfold checkP
  obtain ⟨mp, hmp⟩ : ∃ mp, measP t = mp := ⟨_, rfl⟩
  obtain ⟨r, q, hq⟩ : ∃ r q, wk gCheck t 1 none 0 = (r, q) := ⟨_, _, rfl⟩
  rw [hmp] at HM ⊢
  rw [hq] at HC ⊢
  clear hn hbW hW hs hmp hq hk hok
  unfold nv
  by_cases h0 : mp = 0
  · subst h0
    rw [if_pos rfl]
    go_enter Try.func17, Try.ntmps17
    go_wp2_with (first
      | (go_at_call 27; (with_reducible refine HM.out.mono ?_); rintro e w1 ⟨rfl, hn1, hb1⟩; have HN1 : Hid (NodeA w1 anyH w.heap.size 0 t) := hn1; clear hn1)
      | (go_at_call 23; refine (top_any _).mono ?_; rintro e w2 ⟨rfl, hb2⟩; have hI2 : ICell w1.heap.size 41 (cnt t) 0 w2 := ICell.below (m := cnt t) (box_heap _ _) hb2; have hB2 := bel (bel_alloc w1 _) hb2)
      | (go_at_call 22; (with_reducible refine (HC.out w1 _ HN1.out hI2 hB2).mono ?_); rintro e w3 ⟨rfl, hc3, hb3⟩))
    go_ret
    exact ⟨rfl, bel hb1 hb3⟩
  · rw [if_neg h0]
    have z : (mp == 0) = false := by simpa using h0
    go_enter Try.func17, Try.ntmps17
    go_wp2_with (go_at_call 27; (with_reducible refine HM.out.mono ?_); rintro e w1 ⟨rfl, hn1, hb1⟩)
    go_ret
    exact ⟨rfl, hb1⟩

end Go.Proofs.Ytpidjmgifglmiab
