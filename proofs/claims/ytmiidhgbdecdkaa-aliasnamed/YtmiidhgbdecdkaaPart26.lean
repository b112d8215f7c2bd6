import Derived.Test.YtmiidhgbdecdkaaPart25
import Derived.Test.YtmiidhgbdecdkaaPart24
import Derived.Test.YtmiidhgbdecdkaaPart22
import Derived.Test.YtmiidhgbdecdkaaPart6
import Derived.Test.YtmiidhgbdecdkaaPart1
import Derived.Test.YtmiidhgbdecdkaaPart5
namespace Go.Proofs.Ytmiidhgbdecdkaa
set_option linter.unusedVariables false
set_option linter.unusedSimpArgs false
theorem depL_le {n : Nat} : ∀ {l : List Nd}, (∀ x ∈ l, dep x ≤ n) → depL l ≤ n
 | [], _ => by rw [depL_nil]; exact Nat.zero_le _
 | x :: l, h => by
  rw [depL_cons]
  have h1 := h x List.mem_cons_self
  have h2 := depL_le (n := n) (l := l) fun y hy => h y (List.mem_cons_of_mem _ hy)
  omega
theorem dep_rate (a : Int) {x : Nd} (h : dep x ≤ 1) : dep (rateA a x) ≤ 4 := by
 unfold rateA
 have hm : ∀ nm m, dep (madeN a nm m) = depL m + 1 := fun _ _ => rfl
 have hl : ∀ (k i z : Int) (n y : ByteArray) (b : Int), dep (⟨k, n, z, i, y, [], b⟩ : Nd) = 1 := fun _ _ _ _ _ _ => by show depL [] + 1 = 1; rw [depL_nil]
 split
 ·simp only [hm, depL_cons, depL_nil, hl]; omega
 ·split
  ·simp only [hm, depL_cons, depL_nil, hl]; omega
  ·simp only [hm, depL_cons, depL_nil, mdep_place, numN, hl]; omega
theorem dep_bec {l : List Nd} (h : ∀ x ∈ l, dep x ≤ 1) (nm : ByteArray) (a : Int) : dep (becA nm a l) ≤ 64 := by
 have hm : ∀ nm m, dep (madeN a nm m) = depL m + 1 := fun _ _ => rfl
 have hc : ∀ nm m, dep (callA nm m) = depL m + 1 := fun _ _ => rfl
 have hl : ∀ (k i z : Int) (n y : ByteArray) (b : Int), dep (⟨k, n, z, i, y, [], b⟩ : Nd) = 1 := fun _ _ _ _ _ _ => by show depL [] + 1 = 1; rw [depL_nil]
 have hix : ∀ i, dep (ix l i) ≤ 1 := fun i => by
  unfold ix
  rw [List.getD_eq_getElem?_getD]
  cases e : l[i]? with
  | none => exact Nat.le_of_eq (hl _ _ _ _ _ _)
  | some x => exact h x (List.mem_of_getElem? e)
 have hd : ∀ k, depL (l.drop k) ≤ 1 := fun k => depL_le fun x hx => h x (List.mem_of_mem_drop hx)
 have ht : ∀ k m, depL ((l.drop k).take m) ≤ 1 := fun k m => depL_le fun x hx => h x (List.mem_of_mem_drop (List.mem_of_mem_take hx))
 have hr := dep_rate a (hix 0)
 have h0 := hix 0
 have h1 := hix 1
 have h2 := hix 2
 have h3 := hix 3
 have h4 := hix 4
 have h5 := hix 5
 have h6 := hix 6
 have d1 := hd 1
 have d3 := hd 3
 have t2 := ht 1 2
 have t3 := ht 1 3
 have t4 := ht 1 4
 have hi : ∀ {c : Prop} [Decidable c] {x y : Nd}, dep x ≤ 64 → dep y ≤ 64 → dep (if c then x else y) ≤ 64 := fun {c} _ {x y} hx hy => by
  by_cases h : c
  ·rw [if_pos h]; exact hx
  ·rw [if_neg h]; exact hy
 unfold becA decA
 iterate 16 (refine hi (by first | omega | (simp only [hm, hc, depL_cons, depL_nil, mdep_place, numN, flagN, hl]; omega)) ?_)
 simp only [hm, hc, depL_cons, depL_nil, mdep_place, numN, flagN, hl]; omega
def leafOK (x : Nd) : Bool := x.args.isEmpty && judgeP x (some (callA ⟨#[]⟩ [])) == 0 && (findA x).isNone && decide (0 ≤ x.num) && decide (x.num < 4294967296)
def rowLeaf (r : Rw) : Bool := judgeP (callA r.name []) none == 0 && (r.vals.all fun v => v.args.isEmpty && v.at_ == 0) && decide (r.args.length ≤ 7) && decide (r.vals.length = r.args.length) && decide (0 < r.args.length) && (List.range (2 ^ r.args.length)).all fun g => (plA r g).all leafOK && (nmA r g).all leafOK
set_option maxRecDepth 100000 in
theorem rows_leaf : rowsA.all rowLeaf = true := by decide +kernel
structure RowL (r : Rw) : Prop where
 judge : judgeP (callA r.name []) none = 0
 vals : (r.vals.map fun v => placeN v 0) = r.vals
 short : r.args.length ≤ 7
 same : r.vals.length = r.args.length
 some : 0 < r.args.length
 leaves : ∀ g < 2 ^ r.args.length, (∀ x ∈ plA r g, leafOK x = true) ∧ ∀ x ∈ nmA r g, leafOK x = true
theorem row_leaf {r : Rw} (hr : r ∈ rowsA) : RowL r := by
 have h := List.all_eq_true.1 rows_leaf r hr
 unfold rowLeaf at h
 simp only [Bool.and_eq_true, beq_iff_eq, decide_eq_true_eq, List.all_eq_true, List.mem_range, List.isEmpty_iff] at h
 obtain ⟨⟨⟨⟨⟨h1, h2⟩, h3⟩, h4⟩, h5⟩, h6⟩ := h
 refine ⟨h1, ?_, h3, h4, h5, h6⟩
 have : ∀ l : List Nd, (∀ v ∈ l, v.args = [] ∧ v.at_ = 0) → (l.map fun v => placeN v 0) = l := by
  intro l
  induction l with
  | nil => intro _; rfl
  | cons v l ih =>
   intro h
   obtain ⟨h1, h2⟩ := h v List.mem_cons_self
   rw [List.map_cons, ih fun x hx => h x (List.mem_cons_of_mem _ hx)]
   congr 1
   obtain ⟨a, b, c, d, e, f, i⟩ := v
   simp only at h1 h2
   subst h1 h2
   show (⟨a, b, c, d, e, placeL 0 [], 0⟩ : Nd) = _
   rw [placeL_nil]
 exact this _ h2
structure LeafP (x : Nd) : Prop where
 args : x.args = []
 judge : judgeP x (some (callA ⟨#[]⟩ [])) = 0
 find : findA x = none
 num : 0 ≤ x.num ∧ x.num < 4294967296
theorem leafP_of {x : Nd} (h : leafOK x = true) : LeafP x := by
 unfold leafOK at h
 simp only [Bool.and_eq_true, beq_iff_eq, decide_eq_true_eq, List.isEmpty_iff, Option.isNone_iff_eq_none] at h
 obtain ⟨⟨⟨⟨h1, h2⟩, h3⟩, h4⟩, h5⟩ := h
 exact ⟨h1, h2, h3, h4, h5⟩
theorem find_row {r : Rw} (hr : r ∈ rowsA) (l : List Nd) : findA (callA r.name l) = some r := by
 unfold findA
 rw [if_pos (by rfl)]
 exact findA_key rows_nodup hr rfl
theorem whole_leaves : ∀ {l : List Nd}, (∀ x ∈ l, LeafP x) → wholeL l = l
 | [], _ => wholeL_nil
 | x :: l, h => by
  have hx := h x List.mem_cons_self
  rw [wholeL_cons, whole_leaf hx.find hx.args, whole_leaves fun y hy => h y (List.mem_cons_of_mem _ hy)]
theorem fault_leaves : ∀ {l : List Nd}, (∀ x ∈ l, LeafP x) → faultAL l = (0, 0)
 | [], _ => faultAL_nil
 | x :: l, h => by
  have hx := h x List.mem_cons_self
  rw [faultAL_cons, fault_leaf hx.find hx.args, if_neg (by simp), fault_leaves fun y hy => h y (List.mem_cons_of_mem _ hy)]
theorem cnt_leaves : ∀ {l : List Nd}, (∀ x ∈ l, LeafP x) → cntL l = l.length
 | [], _ => cntL_nil
 | x :: l, h => by
  have hx := h x List.mem_cons_self
  rw [cntL_cons, cnt_leaves fun y hy => h y (List.mem_cons_of_mem _ hy)]
  unfold cnt
  rw [hx.args, cntL_nil, List.length_cons]
  omega
theorem jd_leaves {nm : ByteArray} {m : List Nd} : ∀ {l : List Nd}, (∀ x ∈ l, LeafP x) → jdL (some (callA nm m)) l
 | [], _ => jdL_nil _
 | x :: l, h => by
  have hx := h x List.mem_cons_self
  rw [jdL_cons]
  refine ⟨⟨?_, by rw [hx.args]; exact jdL_nil _⟩, jd_leaves fun y hy => h y (List.mem_cons_of_mem _ hy)⟩
  rw [← judge_parent (a := callA ⟨#[]⟩ []) (b := callA nm m) rfl]
  exact hx.judge
theorem ok_leaves : ∀ {l : List Nd}, (∀ x ∈ l, LeafP x) → okL l
 | [], _ => okL_nil
 | x :: l, h => by
  have hx := h x List.mem_cons_self
  rw [okL_cons]
  obtain ⟨⟨h1, h2⟩, -⟩ := (judge_iff x _).1 hx.judge
  exact ⟨⟨⟨by omega, by omega, hx.num⟩, by rw [hx.args]; exact okL_nil⟩, ok_leaves fun y hy => h y (List.mem_cons_of_mem _ hy)⟩
theorem bec_key0 (nm : ByteArray) (a : Int) (l : List Nd) : (becA nm a l).key = ⟨#[]⟩ :=
 bec_ind (fun t => t.key = ⟨#[]⟩) a (fun r => by
  unfold rateA
  split
  ·rfl
  ·split <;> rfl) (fun _ _ => rfl) nm l
theorem call_judge {r : Rw} (hr : r ∈ rowsA) {l : List Nd} (hl : ∀ x ∈ l, LeafP x) : jd1 none (callA r.name l) := by
 refine ⟨?_, jd_leaves hl⟩
 have h := (judge_iff _ _).1 (row_leaf hr).judge
 exact (judge_iff _ _).2 ⟨h.1, h.2.1, h.2.2.1, h.2.2.2⟩
theorem call_ok {r : Rw} (hr : r ∈ rowsA) {l : List Nd} (hl : ∀ x ∈ l, LeafP x) : ok1 (callA r.name l) := by
 have h := (judge_iff _ _).1 (row_leaf hr).judge
 exact ⟨⟨by have := h.1.1; show r.name.size ≤ _; have : r.name.size ≤ 64 := h.1.1; omega, by show (⟨#[]⟩ : ByteArray).size ≤ _; decide, by show (0 : Int) ≤ 0 ∧ (0 : Int) < 4294967296; omega⟩, ok_leaves hl⟩
theorem call_exp {r : Rw} (hr : r ∈ rowsA) {l p : List Nd} (hl : ∀ x ∈ l, LeafP x) (hn : l.length ≤ 60) (hdw : dep (becA r.name 0 p) ≤ 64) (hf : fillOK r l p = true) : expP (callA r.name l) = ⟨becA r.name 0 p, 0, 0⟩ := by
 have hk : (callA r.name l).kind ≠ 6 := by show (1 : Int) ≠ 6; decide
 have hw := written_id hk
 unfold fillOK at hf
 obtain ⟨w, hw1, hw2, hw3⟩ : ∃ w, givenL r l 0 false [] = .ok w ∧ w.contains 0 = true ∧ fillA w l r.vals = p := by
  cases hg : givenL r l 0 false [] with
  | error e => rw [hg] at hf; simp at hf
  | ok w =>
   rw [hg] at hf
   simp only [Bool.and_eq_true] at hf
   exact ⟨w, rfl, hf.1, listEq_eq hf.2⟩
 have hgv : givenP r (callA r.name l) = .ok w := by
  unfold givenP
  rw [show (callA r.name l).args = l from rfl, hw1]
  simp only
  rw [if_pos hw2]
 have hfi := find_row hr l
 have hwh : wholeN (callA r.name l) = becA r.name 0 p := by
  unfold wholeN oneA
  rw [hfi]
  simp only
  rw [hgv]
  simp only
  rw [show (callA r.name l).args = l from rfl, whole_leaves hl]
  show keyN (becA r.name 0 (fillA w l (r.vals.map fun v => placeN v 0))) ⟨#[]⟩ = _
  rw [(row_leaf hr).vals, hw3, ← bec_key0 r.name 0 p]
  cases becA r.name 0 p; rfl
 have hfa : (faultA (callA r.name l)).1 = 0 := by
  have he : errA (callA r.name l) = (0, 0) := by
   unfold errA
   rw [hfi]
   simp only
   rw [hgv]
  unfold faultA
  rw [he, if_neg (by simp), show (callA r.name l).args = l from rfl, fault_leaves hl]
 have hc : cnt (callA r.name l) ≤ 61 := by
  show 1 + cntL l ≤ 61
  rw [cnt_leaves hl]; omega
 have hd : dep (callA r.name l) ≤ 61 := by
  have := depL_cnt l
  rw [cnt_leaves hl] at this
  show depL l + 1 ≤ 61
  omega
 have hck : checkP (callA r.name l) = 0 := (check_iff _).2 ⟨meas_of (by omega) (by omega), call_judge hr hl⟩
 have hcx := exp_check hck (by rw [hw]; exact hfa) (call_ok hr hl)
 rw [hw, hwh] at hcx
 have hcw := whole_cnt (callA r.name l)
 rw [hwh] at hcw
 unfold expP
 rw [if_neg (fun c => c hck), if_neg (fun c => c (outE_of hk (by omega) (by omega))), hw, if_neg (fun c => c hfa), hwh]
 rw [if_neg (fun c => c (hcx.trans (meas_of hdw (by omega))))]
theorem rot_mem : ∀ (n : Nat) (l : List Nd) (x : Nd), x ∈ rotA n l → x ∈ l
 | 0, l, x, h => h
 | n + 1, l, x, h => by
  have := rot_mem n _ x h
  rcases List.mem_append.1 this with h | h
  ·exact List.mem_of_mem_drop h
  ·exact List.mem_of_mem_take h
theorem rot_len : ∀ (n : Nat) (l : List Nd), (rotA n l).length = l.length
 | 0, l => rfl
 | n + 1, l => by
  show (rotA n (l.drop 1 ++ l.take 1)).length = _
  rw [rot_len n, List.length_append, List.length_drop, List.length_take]
  omega
theorem pl_len (r : Rw) (g : Nat) : (plA r g).length = r.args.length := by unfold plA; rw [List.length_map, List.length_range]
theorem nm_len (r : Rw) (g : Nat) : (nmA r g).length ≤ r.args.length := by
 unfold nmA
 refine Nat.le_trans (List.length_filterMap_le _ _) ?_
 rw [List.length_zipIdx, List.length_zip]
 omega
theorem named_exp {r : Rw} (hr : r ∈ rowsA) {g k : Nat} (hg : g < 2 ^ r.args.length) (hk : k < 10) :
  expP (callA r.name ((plA r g).take (lastG r.args.length g + 1))) = ⟨becA r.name 0 (plA r g), 0, 0⟩ ∧ expP (callA r.name (rotA k (nmA r g))) = ⟨becA r.name 0 (plA r g), 0, 0⟩ := by
 have h := List.all_eq_true.1 rows_named r hr
 unfold rowOK at h
 have h := List.all_eq_true.1 h g (List.mem_range.2 hg)
 rw [Bool.and_eq_true] at h
 have hs := (row_leaf hr).short
 obtain ⟨l1, l2⟩ := (row_leaf hr).leaves g hg
 have l3 : dep (becA r.name 0 (plA r g)) ≤ 64 := dep_bec (fun x hx => by have := (leafP_of (l1 x hx)).args; show depL x.args + 1 ≤ 1; rw [this, depL_nil]; omega) _ _
 refine ⟨call_exp hr (fun x hx => leafP_of (l1 x (List.mem_of_mem_take hx))) ?_ l3 h.1, call_exp hr (fun x hx => leafP_of (l2 x (rot_mem _ _ _ hx))) ?_ l3 (List.all_eq_true.1 h.2 k (List.mem_range.2 hk))⟩
 ·rw [List.length_take, pl_len]; omega
 ·rw [rot_len]; have := nm_len r g; omega
end Go.Proofs.Ytmiidhgbdecdkaa
namespace Go.Proofs.Ytmiidhgbdecdkaa
open Go.RowKit
set_option linter.unusedVariables false
set_option linter.unusedSimpArgs false
end Go.Proofs.Ytmiidhgbdecdkaa
namespace Go.Proofs.Ytmiidhgbdecdkaa
open Go.RowKit
set_option linter.unusedVariables false
set_option linter.unusedSimpArgs false
end Go.Proofs.Ytmiidhgbdecdkaa
namespace Go.Proofs.Ytmiidhgbdecdkaa
open Go.RowKit
set_option linter.unusedVariables false
set_option linter.unusedSimpArgs false
theorem toList_inj {a b : ByteArray} (h : a.toList = b.toList) : a = b := by
 rw [ByteArray.toList_eq, ByteArray.toList_eq] at h
 cases a; cases b
 congr 1
 exact Array.toList_inj.1 h
set_option maxRecDepth 100000 in
set_option maxHeartbeats 4000000 in
theorem requal_to : ∀ N, EqTo 16 N := by
 intro N
 induction N with
 | zero => intro t u p p' c c' w hd; unfold dep at hd; omega
 | succ N ih =>
   intro t u p p' c c' w hd hc hcu hk hk'
   have hlen : t.args.length ≤ 9000 := by have := cntL_len t.args; unfold cnt at hc; omega
   have hlenu : u.args.length ≤ 9000 := by have := cntL_len u.args; unfold cnt at hcu; omega
   obtain ⟨n, hn⟩ : ∃ n, t.args.length = n := ⟨_, rfl⟩
   obtain ⟨m, hm⟩ : ∃ m, u.args.length = m := ⟨_, rfl⟩
   have HN : Hid (t.args.length = n) := hn
   have HM0 : Hid (u.args.length = m) := hm
   have HK : Hid (Kids w anyH (.slice p t.args.length c) t.args) := hk
   have HK2 : Hid (Kids w anyH (.slice p' u.args.length c') u.args) := hk'
   have HIH : Hid (EqTo 16 N) := ih
   have HQ : Hid (eqT t u = (t.kind == u.kind && t.name.toList == u.name.toList && t.num == u.num && t.int_ == u.int_ && t.key.toList == u.key.toList && eqL t.args u.args)) := rfl
   unfold nv
   rw [hn] at hlen ⊢
   rw [hm] at hlenu ⊢
   clear hn hm hk hk' ih
   by_cases h0 : t.kind = u.kind
   case neg =>
    have e : eqT t u = false := by
     rw [HQ.out]; simp [h0]
    rw [e]
    clear e HQ HIH
    go_enter Try.func16, Try.ntmps16
    go_wp2
    go_ret
    exact ⟨rfl, bel (bel_alloc _ _) (bel_alloc _ _)⟩
   by_cases h1 : t.name.toList = u.name.toList
   case neg =>
    have e : eqT t u = false := by
     rw [HQ.out]; simp [h0, h1]
    rw [e]
    clear e HQ HIH
    go_enter Try.func16, Try.ntmps16
    go_wp2
    go_ret
    exact ⟨rfl, bel (bel_alloc _ _) (bel_alloc _ _)⟩
   by_cases h2 : t.num = u.num
   case neg =>
    have e : eqT t u = false := by
     rw [HQ.out]; simp [h0, h1, h2]
    rw [e]
    clear e HQ HIH
    go_enter Try.func16, Try.ntmps16
    go_wp2
    go_ret
    exact ⟨rfl, bel (bel_alloc _ _) (bel_alloc _ _)⟩
   by_cases h3 : t.int_ = u.int_
   case neg =>
    have e : eqT t u = false := by
     rw [HQ.out]; simp [h0, h1, h2, h3]
    rw [e]
    clear e HQ HIH
    go_enter Try.func16, Try.ntmps16
    go_wp2
    go_ret
    exact ⟨rfl, bel (bel_alloc _ _) (bel_alloc _ _)⟩
   by_cases h4 : t.key.toList = u.key.toList
   case neg =>
    have e : eqT t u = false := by
     rw [HQ.out]; simp [h0, h1, h2, h3, h4]
    rw [e]
    clear e HQ HIH
    go_enter Try.func16, Try.ntmps16
    go_wp2
    go_ret
    exact ⟨rfl, bel (bel_alloc _ _) (bel_alloc _ _)⟩
   by_cases h5 : (n : Int) = (m : Int)
   case neg =>
    have e : eqT t u = false := by
     rw [HQ.out, show eqL t.args u.args = false from by (rw [Bool.eq_false_iff]; intro h; have := eqL_len _ _ h; rw [HN.out, HM0.out] at this; omega), Bool.and_false]
    rw [e]
    clear e HQ HIH
    go_enter Try.func16, Try.ntmps16
    go_wp2
    go_ret
    exact ⟨rfl, bel (bel_alloc _ _) (bel_alloc _ _)⟩
   obtain rfl : n = m := by omega
   have h1' := toList_inj h1
   have h4' := toList_inj h4
   obtain ⟨uk, un, ux, ui, uy, ul, ua⟩ := u
   simp only at *
   subst h0 h1' h2 h3 h4'
   have HM : Hid (ul.length = n) := HM0
   have HEQ : Hid (eqT t ⟨t.kind, t.name, t.num, t.int_, t.key, ul, ua⟩ = eqL t.args ul) := show eqT t ⟨t.kind, t.name, t.num, t.int_, t.key, ul, ua⟩ = eqL t.args ul by rw [HQ.out]; simp
   have HBX : Hid (Below w.heap.size w ((w.alloc (.cells #[.int .i64 t.kind, .string t.name, .int .u32 t.num, .int .i64 t.int_, .string t.key, .slice p n c, .int .i64 t.at_] 26)).alloc (.cells #[.int .i64 t.kind, .string t.name, .int .u32 t.num, .int .i64 t.int_, .string t.key, .slice p' n c', .int .i64 ua] 26)) ∧ ((w.alloc (.cells #[.int .i64 t.kind, .string t.name, .int .u32 t.num, .int .i64 t.int_, .string t.key, .slice p n c, .int .i64 t.at_] 26)).alloc (.cells #[.int .i64 t.kind, .string t.name, .int .u32 t.num, .int .i64 t.int_, .string t.key, .slice p' n c', .int .i64 ua] 26)).heap[w.heap.size]? = some (.cells #[.int .i64 t.kind, .string t.name, .int .u32 t.num, .int .i64 t.int_, .string t.key, .slice p n c, .int .i64 t.at_] 26) ∧ ((w.alloc (.cells #[.int .i64 t.kind, .string t.name, .int .u32 t.num, .int .i64 t.int_, .string t.key, .slice p n c, .int .i64 t.at_] 26)).alloc (.cells #[.int .i64 t.kind, .string t.name, .int .u32 t.num, .int .i64 t.int_, .string t.key, .slice p' n c', .int .i64 ua] 26)).heap[w.heap.size + 1]? = some (.cells #[.int .i64 t.kind, .string t.name, .int .u32 t.num, .int .i64 t.int_, .string t.key, .slice p' n c', .int .i64 ua] 26)) := ⟨bel (bel_alloc _ _) (bel_alloc _ _), heap_old _ _ (box_heap _ _), two_heap _ _ _⟩
   clear HQ HM0 hlenu h5 h1 h4
   go_enter Try.func16, Try.ntmps16
   go_wp2
   go_loopw [5] (fun iv wr => Below w.heap.size w wr ∧ ∃ j : Nat, j ≤ n ∧ iv = .int .i64 j ∧ wr.heap[w.heap.size]? = some (.cells #[.int .i64 t.kind, .string t.name, .int .u32 t.num, .int .i64 t.int_, .string t.key, .slice p n c, .int .i64 t.at_] 26) ∧ wr.heap[w.heap.size + 1]? = some (.cells #[.int .i64 t.kind, .string t.name, .int .u32 t.num, .int .i64 t.int_, .string t.key, .slice p' n c', .int .i64 ua] 26) ∧ Hid (∀ i (h : i < t.args.length) (h' : i < ul.length), i < j → eqT t.args[i] ul[i] = true)) (fun iv _ => n - (intOf iv).toNat)
   case atStart => exact ⟨HBX.out.1, 0, Nat.zero_le _, rfl, HBX.out.2.1, HBX.out.2.2, fun i _ _ hi => absurd hi (Nat.not_lt_zero _)⟩
   case round =>
    obtain ⟨hb, j, hj, rfl, hx, hy, hS⟩ := hrel
    have h5 := cell5 hx
    have h5' := cell5 hy
    have HX : Hid (wr.heap[w.heap.size]? = some (.cells #[.int .i64 t.kind, .string t.name, .int .u32 t.num, .int .i64 t.int_, .string t.key, .slice p n c, .int .i64 t.at_] 26)) := hx
    have HY : Hid (wr.heap[w.heap.size + 1]? = some (.cells #[.int .i64 t.kind, .string t.name, .int .u32 t.num, .int .i64 t.int_, .string t.key, .slice p' n c', .int .i64 ua] 26)) := hy
    clear hx hy HBX
    by_cases hlt0 : j < n
    ·have hll : j < t.args.length := by rw [HN.out]; exact hlt0
     have hlu : j < ul.length := by rw [HM.out]; exact hlt0
     obtain ⟨b1, o1, q1, d1, rfl, ⟨x0, x1, x2, x3, x4, x5, x6⟩, kx⟩ := kid_at HK.out hb hll
     obtain ⟨b2, o2, q2, d2, rfl, ⟨y0, y1, y2, y3, y4, y5, y6⟩, ky⟩ := kid_at HK2.out hb hlu
     obtain ⟨rb, hrb⟩ : ∃ rb, eqT t.args[j] ul[j] = rb := ⟨_, rfl⟩
     have HRB : Hid (eqT t.args[j] ul[j] = rb) := hrb
     have HW : Hid (∀ v, Below wr.heap.size wr v → Calls Try.prog 16 #[.agg #[.int .i64 t.args[j].kind, .string t.args[j].name, .int .u32 t.args[j].num, .int .i64 t.args[j].int_, .string t.args[j].key, .slice q1 t.args[j].args.length d1, .int .i64 t.args[j].at_], .agg #[.int .i64 ul[j].kind, .string ul[j].name, .int .u32 ul[j].num, .int .i64 ul[j].int_, .string ul[j].key, .slice q2 ul[j].args.length d2, .int .i64 ul[j].at_]] v fun e v' => e = .returned (.bool rb) ∧ Below wr.heap.size wr v') := fun v hv =>
      (HIH.out t.args[j] ul[j] q1 q2 d1 d2 v (by have := dep_get hll; unfold dep at hd ⊢; unfold dep at this; omega) (by have := cnt_get hll; unfold cnt at hc; omega) (by have := cnt_get hlu; have h9 : 1 + cntL ul ≤ 9000 := hcu; omega) (kx.below hv) (ky.below hv)).mono fun e v' ⟨he, hb'⟩ => ⟨by rw [he, HRB.out], bel hv hb'⟩
     have HB : Hid (∀ v, Below wr.heap.size wr v → v.cell? ⟨w.heap.size, 5, none⟩ = some (.slice (some ⟨b1, o1, none⟩) n c) ∧ v.cell? ⟨w.heap.size + 1, 5, none⟩ = some (.slice (some ⟨b2, o2, none⟩) n c') ∧ (v.cell? ⟨b1, o1 + j * 7, none⟩ = some (.int .i64 t.args[j].kind) ∧ v.cell? ⟨b1, o1 + j * 7 + 1, none⟩ = some (.string t.args[j].name) ∧ v.cell? ⟨b1, o1 + j * 7 + 2, none⟩ = some (.int .u32 t.args[j].num) ∧ v.cell? ⟨b1, o1 + j * 7 + 3, none⟩ = some (.int .i64 t.args[j].int_) ∧ v.cell? ⟨b1, o1 + j * 7 + 4, none⟩ = some (.string t.args[j].key) ∧ v.cell? ⟨b1, o1 + j * 7 + 5, none⟩ = some (.slice q1 t.args[j].args.length d1) ∧ v.cell? ⟨b1, o1 + j * 7 + 6, none⟩ = some (.int .i64 t.args[j].at_)) ∧ v.cell? ⟨b2, o2 + j * 7, none⟩ = some (.int .i64 ul[j].kind) ∧ v.cell? ⟨b2, o2 + j * 7 + 1, none⟩ = some (.string ul[j].name) ∧ v.cell? ⟨b2, o2 + j * 7 + 2, none⟩ = some (.int .u32 ul[j].num) ∧ v.cell? ⟨b2, o2 + j * 7 + 3, none⟩ = some (.int .i64 ul[j].int_) ∧ v.cell? ⟨b2, o2 + j * 7 + 4, none⟩ = some (.string ul[j].key) ∧ v.cell? ⟨b2, o2 + j * 7 + 5, none⟩ = some (.slice q2 ul[j].args.length d2) ∧ v.cell? ⟨b2, o2 + j * 7 + 6, none⟩ = some (.int .i64 ul[j].at_)) := fun v hv =>
      ⟨(hv.cell (mcell_lt h5)).trans h5, (hv.cell (mcell_lt h5')).trans h5', ⟨(hv.cell (mcell_lt x0)).trans x0, (hv.cell (mcell_lt x1)).trans x1, (hv.cell (mcell_lt x2)).trans x2, (hv.cell (mcell_lt x3)).trans x3, (hv.cell (mcell_lt x4)).trans x4, (hv.cell (mcell_lt x5)).trans x5, (hv.cell (mcell_lt x6)).trans x6⟩,
       (hv.cell (mcell_lt y0)).trans y0, (hv.cell (mcell_lt y1)).trans y1, (hv.cell (mcell_lt y2)).trans y2, (hv.cell (mcell_lt y3)).trans y3, (hv.cell (mcell_lt y4)).trans y4, (hv.cell (mcell_lt y5)).trans y5, (hv.cell (mcell_lt y6)).trans y6⟩
     have i1 : (0 : Int) ≤ (j : Int) := by omega
     have i2 : (j : Int) < (n : Int) := by omega
     clear kx ky HIH HK HK2 hrb
     cases rb with
     | false =>
      go_wp2
      go_region_held3 (fun w' => w'.cell? ⟨w.heap.size, 5, none⟩ = some (.slice (some ⟨b1, o1, none⟩) n c) ∧ w'.cell? ⟨w.heap.size + 1, 5, none⟩ = some (.slice (some ⟨b2, o2, none⟩) n c') ∧ w'.cell? ⟨b1, o1 + j * 7, none⟩ = some (.int .i64 t.args[j].kind) ∧ w'.cell? ⟨b1, o1 + j * 7 + 1, none⟩ = some (.string t.args[j].name) ∧ w'.cell? ⟨b1, o1 + j * 7 + 2, none⟩ = some (.int .u32 t.args[j].num) ∧ w'.cell? ⟨b1, o1 + j * 7 + 3, none⟩ = some (.int .i64 t.args[j].int_) ∧ w'.cell? ⟨b1, o1 + j * 7 + 4, none⟩ = some (.string t.args[j].key) ∧ w'.cell? ⟨b1, o1 + j * 7 + 5, none⟩ = some (.slice q1 t.args[j].args.length d1) ∧ w'.cell? ⟨b1, o1 + j * 7 + 6, none⟩ = some (.int .i64 t.args[j].at_) ∧ w'.cell? ⟨b2, o2 + j * 7, none⟩ = some (.int .i64 ul[j].kind) ∧ w'.cell? ⟨b2, o2 + j * 7 + 1, none⟩ = some (.string ul[j].name) ∧ w'.cell? ⟨b2, o2 + j * 7 + 2, none⟩ = some (.int .u32 ul[j].num) ∧ w'.cell? ⟨b2, o2 + j * 7 + 3, none⟩ = some (.int .i64 ul[j].int_) ∧ w'.cell? ⟨b2, o2 + j * 7 + 4, none⟩ = some (.string ul[j].key) ∧ w'.cell? ⟨b2, o2 + j * 7 + 5, none⟩ = some (.slice q2 ul[j].args.length d2) ∧ w'.cell? ⟨b2, o2 + j * 7 + 6, none⟩ = some (.int .i64 ul[j].at_)) (go_keep) (first
       | (go_at_call 16; (with_reducible refine (HW.out _ ?_).mono ?_); (first | exact bel_d _ | exact bel_dn _ _ | go_grown); rintro e w3 ⟨rfl, hb3⟩; obtain ⟨g5, k5, ⟨m0, m1, m2, m3, m4, m5, m6⟩, n0, n1, n2, n3, n4, n5, n6⟩ := HB.out w3 hb3))
      go_wp2
      go_ret
      refine ⟨ret_bool ?_, bel hb hb3⟩
      rw [HEQ.out, eqL_false_of (by rw [HN.out, HM.out]) hll hlu HRB.out]
     | true =>
      go_wp2
      go_region_held3 (fun w' => w'.cell? ⟨w.heap.size, 5, none⟩ = some (.slice (some ⟨b1, o1, none⟩) n c) ∧ w'.cell? ⟨w.heap.size + 1, 5, none⟩ = some (.slice (some ⟨b2, o2, none⟩) n c') ∧ w'.cell? ⟨b1, o1 + j * 7, none⟩ = some (.int .i64 t.args[j].kind) ∧ w'.cell? ⟨b1, o1 + j * 7 + 1, none⟩ = some (.string t.args[j].name) ∧ w'.cell? ⟨b1, o1 + j * 7 + 2, none⟩ = some (.int .u32 t.args[j].num) ∧ w'.cell? ⟨b1, o1 + j * 7 + 3, none⟩ = some (.int .i64 t.args[j].int_) ∧ w'.cell? ⟨b1, o1 + j * 7 + 4, none⟩ = some (.string t.args[j].key) ∧ w'.cell? ⟨b1, o1 + j * 7 + 5, none⟩ = some (.slice q1 t.args[j].args.length d1) ∧ w'.cell? ⟨b1, o1 + j * 7 + 6, none⟩ = some (.int .i64 t.args[j].at_) ∧ w'.cell? ⟨b2, o2 + j * 7, none⟩ = some (.int .i64 ul[j].kind) ∧ w'.cell? ⟨b2, o2 + j * 7 + 1, none⟩ = some (.string ul[j].name) ∧ w'.cell? ⟨b2, o2 + j * 7 + 2, none⟩ = some (.int .u32 ul[j].num) ∧ w'.cell? ⟨b2, o2 + j * 7 + 3, none⟩ = some (.int .i64 ul[j].int_) ∧ w'.cell? ⟨b2, o2 + j * 7 + 4, none⟩ = some (.string ul[j].key) ∧ w'.cell? ⟨b2, o2 + j * 7 + 5, none⟩ = some (.slice q2 ul[j].args.length d2) ∧ w'.cell? ⟨b2, o2 + j * 7 + 6, none⟩ = some (.int .i64 ul[j].at_)) (go_keep) (first
       | (go_at_call 16; (with_reducible refine (HW.out _ ?_).mono ?_); (first | exact bel_d _ | exact bel_dn _ _ | go_grown); rintro e w3 ⟨rfl, hb3⟩; obtain ⟨g5, k5, ⟨m0, m1, m2, m3, m4, m5, m6⟩, n0, n1, n2, n3, n4, n5, n6⟩ := HB.out w3 hb3))
      go_wp2
      go_roundw
      case rel =>
       refine ⟨bel hb hb3, j + 1, by omega, by go_num, by rw [hb3.block _ (hlt HX.out)]; exact HX.out, by rw [hb3.block _ (hlt HY.out)]; exact HY.out, fun i h h' hij => ?_⟩
       by_cases e : i = j
       ·subst e; exact HRB.out
       ·exact hS.out i h h' (by omega)
      case measure => simp [intOf]; omega
    ·have : j = n := by omega
     subst this
     go_wp2
     go_ret
     refine ⟨ret_bool ?_, hb⟩
     rw [HEQ.out, eqL_true_of (by rw [HN.out, HM.out]) fun i h h' => hS.out i h h' (by rw [← HN.out]; exact h)]
end Go.Proofs.Ytmiidhgbdecdkaa
namespace Go.Proofs.Ytmiidhgbdecdkaa
open Go.RowKit
set_option linter.unusedVariables false
set_option linter.unusedSimpArgs false
theorem cnt_one {t : Nd} (h : t.args = []) : cnt t = 1 := by unfold cnt; rw [h, cntL_nil]
theorem named_facts {r : Rw} {g : Nat} (hr : r ∈ rowsA) (hg : g < 2 ^ r.args.length) : cnt (becA r.name 0 (plA r g)) ≤ 4096 ∧ ∀ l, (l = (plA r g).take (lastG r.args.length g + 1) ∨ ∃ k, k < 10 ∧ l = rotA k (nmA r g)) → (∀ x ∈ l, LeafP x) ∧ l.length ≤ 7 ∧ expP (callA r.name l) = ⟨becA r.name 0 (plA r g), 0, 0⟩ := by
 have hs := (row_leaf hr).short
 obtain ⟨l1, l2⟩ := (row_leaf hr).leaves g hg
 have key : ∀ l, (l = (plA r g).take (lastG r.args.length g + 1) ∨ ∃ k, k < 10 ∧ l = rotA k (nmA r g)) → (∀ x ∈ l, LeafP x) ∧ l.length ≤ 7 ∧ expP (callA r.name l) = ⟨becA r.name 0 (plA r g), 0, 0⟩ := by
  intro l hl
  rcases hl with rfl | ⟨k, hk, rfl⟩
  ·exact ⟨fun x hx => leafP_of (l1 x (List.mem_of_mem_take hx)), by rw [List.length_take, pl_len]; omega, (named_exp hr hg (k := 0) (by decide)).1⟩
  ·exact ⟨fun x hx => leafP_of (l2 x (rot_mem _ _ _ hx)), by rw [rot_len]; have := nm_len r g; omega, (named_exp hr hg hk).2⟩
 refine ⟨?_, key⟩
 obtain ⟨h1, h2, h3⟩ := key _ (.inl rfl)
 have hw := whole_cnt (callA r.name ((plA r g).take (lastG r.args.length g + 1)))
 have hc : cnt (callA r.name ((plA r g).take (lastG r.args.length g + 1))) ≤ 8 := by
  show 1 + cntL ((plA r g).take (lastG r.args.length g + 1)) ≤ 8
  rw [cnt_leaves h1]; omega
 have he : wholeN (callA r.name ((plA r g).take (lastG r.args.length g + 1))) = becA r.name 0 (plA r g) := by
  have hk : (callA r.name ((plA r g).take (lastG r.args.length g + 1))).kind ≠ 6 := by show (1 : Int) ≠ 6; decide
  unfold expP at h3
  rw [written_id hk] at h3
  split at h3
  ·have := congrArg ExpR.err h3; rename_i hh; exact absurd this hh
  ·split at h3
   ·have := congrArg ExpR.err h3; rename_i hh; exact absurd this hh
   ·split at h3
    ·have := congrArg ExpR.err h3; rename_i hh; exact absurd this hh
    ·split at h3
     ·have := congrArg ExpR.err h3; rename_i hh; exact absurd this hh
     ·exact congrArg ExpR.tree h3
 rw [he] at hw
 omega
theorem walk_AliasNamed (R : Int) (R0 : -9223372036854775808 ≤ R) (R1 : R ≤ 9223372036854775807) (G : Int) (G0 : -9223372036854775808 ≤ G) (G1 : G ≤ 9223372036854775807) (T : Int) (T0 : -9223372036854775808 ≤ T) (T1 : T ≤ 9223372036854775807) (w : World) :
  Calls Try.prog 6 #[.agg #[.int .i64 R, .int .i64 G, .int .i64 T]] w fun e w' => e = .returned (.bool true) ∧ Below w.heap.size w w' := by
 refine named_core R R0 R1 G G0 G1 T T0 T1 w rows_any ?_ ?_ ?_ works_any
 ·show ∀ (t : Nd) (p : Option Addr) (c : Nat) (x : World), _
  intro t p c x ht
  have h := twinA_to (dep t) t p c x (Nat.le_refl _) (by rw [cnt_one ht]; decide) ⟨p, c, rfl, trivial, .inl ht⟩
  rw [idN_eq, ht] at h
  refine Calls.mono h ?_
  rintro e w' ⟨p', n', c', h1, h2, h3⟩
  obtain ⟨q, d, hv, -⟩ := h2
  simp only [Value.slice.injEq] at hv
  obtain ⟨rfl, rfl, rfl⟩ := hv
  exact ⟨p', c', h1, h3⟩
 ·show ∀ (r : Rw) (g : Nat), _
  intro r g hr hg l hl p c x hx
  obtain ⟨h1, h2, h3⟩ := (named_facts hr hg).2 l hl
  have hc : cnt (callA r.name l) ≤ 40000 := by
   show 1 + cntL l ≤ 40000
   rw [cnt_leaves h1]; omega
  have h := expand_any (callA r.name l) (.slice p l.length c) x hc (call_ok hr h1) hx
  rw [h3] at h
  refine Calls.mono h ?_
  rintro e w' ⟨sv', he, hk, hb⟩
  have hk' := hk.weak (R := anyH) fun _ _ _ _ => trivial
  obtain ⟨q, d, hv, -⟩ := id hk'
  subst hv
  exact ⟨q, d, he, hk', hb⟩
 ·show ∀ (r : Rw) (g : Nat), _
  intro r g hr hg p q c d x h1 h2
  have hc := (named_facts hr hg).1
  refine Calls.mono (requal_to (dep (becA r.name 0 (plA r g))) _ _ p q c d x (Nat.le_refl _) (by omega) (by omega) h1 h2) ?_
  rintro e w' ⟨he, hb⟩
  refine ⟨by rw [he, eqT_self], hb⟩
end Go.Proofs.Ytmiidhgbdecdkaa
