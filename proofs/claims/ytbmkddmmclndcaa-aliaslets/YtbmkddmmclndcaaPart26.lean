import Derived.Test.YtbmkddmmclndcaaPart24
import Derived.Test.YtbmkddmmclndcaaPart25
/- The statement AliasLets. (tool/layer12/genlets.py) -/
namespace Go.Proofs.Ytbmkddmmclndcaa
open Go.RowKit
set_option linter.unusedVariables false
set_option linter.unusedSimpArgs false

/-- Two boxes behind a world. -/
def Bx2 (w x : World) (A B : Array Value) : Prop := Below w.heap.size w x ∧ x.heap[w.heap.size]? = some (.cells A 26) ∧ x.heap[w.heap.size + 1]? = some (.cells B 26)
theorem Bx2.b {w x : World} {A B : Array Value} (h : Bx2 w x A B) : Below w.heap.size w x := h.1
theorem Bx2.below {w x y : World} {A B : Array Value} (h : Bx2 w x A B) (k : Below x.heap.size x y) : Bx2 w y A B := ⟨bel h.1 k, (k.block _ (hlt h.2.1)).trans h.2.1, (k.block _ (hlt h.2.2)).trans h.2.2⟩
theorem Bx2.mk2 (w : World) (A B : Array Value) : Bx2 w ((w.alloc (.cells A 26)).alloc (.cells B 26)) A B := ⟨bel (bel_alloc _ _) (bel_alloc _ _), heap_old _ _ (box_heapA _ _), two_heap _ _ _⟩
theorem Bx2.set2 {w x : World} {A B : Array Value} (h : Bx2 w x A B) (i : Nat) (y : Value) : Bx2 w (x.setCell ⟨w.heap.size + 1, i, none⟩ y) A (B.setIfInBounds i y) := by
  have k := (Off.refl (w.heap.size + 1) x).set i y
  exact ⟨k.below h.1 (by omega), (k.2.2.2.2 _ (by omega)).trans h.2.1, put_oneA h.2.2 i y⟩
theorem Bx2.set1 {w x : World} {A B : Array Value} (h : Bx2 w x A B) (i : Nat) (y : Value) : Bx2 w (x.setCell ⟨w.heap.size, i, none⟩ y) (A.setIfInBounds i y) B := by
  have k := (Off.refl w.heap.size x).set i y
  exact ⟨k.below h.1 (by omega), put_oneA h.2.1 i y, (k.2.2.2.2 _ (by omega)).trans h.2.2⟩
theorem twin_own (t : Nd) (p : Option Addr) (c : Nat) (w : World) (hc : cnt t ≤ 40000) (hk : Kids w anyH (.slice p t.args.length c) t.args) :
    Calls Try.prog 10 #[nv t (.slice p t.args.length c)] w fun r w' => ∃ p' c', r = .returned (nv t (.slice p' t.args.length c')) ∧ Kids w' (kidH w.heap.size w'.heap.size none) (.slice p' t.args.length c') t.args ∧ Below w.heap.size w w' :=
  (twinA_to (dep t) t p c w (Nat.le_refl _) hc hk).mono fun r w' ⟨p', n', c', h1, h2, h3⟩ => by
    rw [idN_eq] at h1 h2
    obtain ⟨q, d, hv, -⟩ := id h2
    simp only [Value.slice.injEq] at hv
    obtain ⟨rfl, rfl, rfl⟩ := hv
    exact ⟨p', c', h1, h2, h3⟩

set_option maxRecDepth 100000 in
set_option maxHeartbeats 4000000 in
theorem lets_great (P : Nd) (pp : Option Addr) (pc : Nat) (nm : ByteArray) (V : Nd) (vp : Option Addr) (vc : Nat) (w : World) (hkP : Kids w anyH (.slice pp P.args.length pc) P.args) (hkV : Kids w anyH (.slice vp V.args.length vc) V.args) (hgr : 100 < cnt V ∨ (cnt V ≤ 100 ∧ 200 < cnt P)) :
    Calls Try.prog 5 #[nv P (.slice pp P.args.length pc), .string nm, nv V (.slice vp V.args.length vc)] w fun e w' => e = .returned (.bool true) ∧ Below w.heap.size w w' := by
  have HWK : Hid (∀ x : World, Calls Try.prog 8 #[] x fun e w' => e = .returned (.bool true) ∧ Below x.heap.size x w') := works_any
  have hcv := fun (x : World) (k : Below w.heap.size w x) => countA_to (dep V) V 100 vp vc x (Nat.le_refl _) (by decide) (hkV.below k)
  have hcp := fun (x : World) (k : Below w.heap.size w x) => countA_to (dep P) P 200 pp pc x (Nat.le_refl _) (by decide) (hkP.below k)
  obtain ⟨kv, hkv⟩ : ∃ kv : Int, ((min (cnt V) (100 + 1) : Nat) : Int) = kv := ⟨_, rfl⟩
  obtain ⟨kp, hkp⟩ : ∃ kp : Int, ((min (cnt P) (200 + 1) : Nat) : Int) = kp := ⟨_, rfl⟩
  have hcond : (100 : Int) < kv ∨ (¬ (100 : Int) < kv ∧ (200 : Int) < kp) := by omega
  rw [hkv] at hcv
  rw [hkp] at hcp
  obtain ⟨n, hn⟩ : ∃ n, P.args.length = n := ⟨_, rfl⟩
  obtain ⟨m, hm⟩ : ∃ m, V.args.length = m := ⟨_, rfl⟩
  rw [hn] at hcp ⊢
  rw [hm] at hcv ⊢
  unfold nv at hcv hcp ⊢
  have HCV : Hid (∀ x : World, Below w.heap.size w x → Calls Try.prog 14 #[.agg #[.int .i64 V.kind, .string V.name, .int .u32 V.num, .int .i64 V.int_, .string V.key, .slice vp m vc, .int .i64 V.at_], .int .i64 100] x fun e w' => e = .returned (.int .i64 kv) ∧ Below x.heap.size x w') := hcv
  have HCP : Hid (∀ x : World, Below w.heap.size w x → Calls Try.prog 14 #[.agg #[.int .i64 P.kind, .string P.name, .int .u32 P.num, .int .i64 P.int_, .string P.key, .slice pp n pc, .int .i64 P.at_], .int .i64 200] x fun e w' => e = .returned (.int .i64 kp) ∧ Below x.heap.size x w') := hcp
  obtain ⟨W0, hW0⟩ : ∃ x, (w.alloc (.cells #[.int .i64 P.kind, .string P.name, .int .u32 P.num, .int .i64 P.int_, .string P.key, .slice pp n pc, .int .i64 P.at_] 26)).alloc (.cells #[.int .i64 V.kind, .string V.name, .int .u32 V.num, .int .i64 V.int_, .string V.key, .slice vp m vc, .int .i64 V.at_] 26) = x := ⟨_, rfl⟩
  have HB0 : Hid (Bx2 w W0 #[.int .i64 P.kind, .string P.name, .int .u32 P.num, .int .i64 P.int_, .string P.key, .slice pp n pc, .int .i64 P.at_] #[.int .i64 V.kind, .string V.name, .int .u32 V.num, .int .i64 V.int_, .string V.key, .slice vp m vc, .int .i64 V.at_]) := by show Bx2 _ _ _ _; rw [← hW0]; exact Bx2.mk2 _ _ _
  obtain ⟨⟨y0, y1, y2, y3, y4, y5, y6⟩, -⟩ := sevenA HB0.out.2.2
  clear hcv hcp hkv hkp hn hm hkP hkV hgr
  rcases hcond with h1 | ⟨h1, h2⟩
  · go_enter Try.func5, Try.ntmps5
    go_wp2_with (first
      | (go_at_call 14; (with_reducible refine (HCV.out _ HB0.out.b).mono ?_); rintro e v1 ⟨rfl, hb1⟩; have HB1 : Hid (Bx2 w v1 #[.int .i64 P.kind, .string P.name, .int .u32 P.num, .int .i64 P.int_, .string P.key, .slice pp n pc, .int .i64 P.at_] #[.int .i64 V.kind, .string V.name, .int .u32 V.num, .int .i64 V.int_, .string V.key, .slice vp m vc, .int .i64 V.at_]) := HB0.out.below hb1; obtain ⟨⟨a0, a1, a2, a3, a4, a5, a6⟩, -⟩ := sevenA HB1.out.2.1; clear hb1)
      | (go_at_call 8; (with_reducible refine (HWK.out _).mono ?_); rintro e v9 ⟨rfl, hb9⟩; have HB9 : Hid (Below w.heap.size w v9) := bel HB1.out.b hb9; clear hb9))
    refine bodyPost_ret (by simp [results, Try.results5, go_sem]; try rfl) rfl ?_
    exact ⟨rfl, HB9.out⟩
  · go_enter Try.func5, Try.ntmps5
    go_wp2_with (first
      | (go_at_call 14; (with_reducible refine (HCV.out _ HB0.out.b).mono ?_); rintro e v1 ⟨rfl, hb1⟩; have HB1 : Hid (Bx2 w v1 #[.int .i64 P.kind, .string P.name, .int .u32 P.num, .int .i64 P.int_, .string P.key, .slice pp n pc, .int .i64 P.at_] #[.int .i64 V.kind, .string V.name, .int .u32 V.num, .int .i64 V.int_, .string V.key, .slice vp m vc, .int .i64 V.at_]) := HB0.out.below hb1; obtain ⟨⟨a0, a1, a2, a3, a4, a5, a6⟩, -⟩ := sevenA HB1.out.2.1; clear hb1)
      | (go_at_call 14; (with_reducible refine (HCP.out _ HB1.out.b).mono ?_); rintro e v2 ⟨rfl, hb2⟩; have HB2 : Hid (Bx2 w v2 #[.int .i64 P.kind, .string P.name, .int .u32 P.num, .int .i64 P.int_, .string P.key, .slice pp n pc, .int .i64 P.at_] #[.int .i64 V.kind, .string V.name, .int .u32 V.num, .int .i64 V.int_, .string V.key, .slice vp m vc, .int .i64 V.at_]) := HB1.out.below hb2; obtain ⟨⟨d0, d1, d2, d3, d4, d5, d6⟩, dd0, dd1, dd2, dd3, dd4, dd5, dd6⟩ := sevenA HB2.out.2.1; obtain ⟨⟨g0, g1, g2, g3, g4, g5, g6⟩, gg0, gg1, gg2, gg3, gg4, gg5, gg6⟩ := sevenA HB2.out.2.2; clear hb2)
      | (go_at_call 8; (with_reducible refine (HWK.out _).mono ?_); rintro e v9 ⟨rfl, hb9⟩; have HB9 : Hid (Below w.heap.size w v9) := bel HB2.out.b hb9; clear hb9))
    refine bodyPost_ret (by simp [results, Try.results5, go_sem]; try rfl) rfl ?_
    exact ⟨rfl, HB9.out⟩

set_option maxRecDepth 100000 in
set_option maxHeartbeats 8000000 in
theorem walk_AliasLets (P : Nd) (pp : Option Addr) (pc : Nat) (hokP : ok1 P) (nm : ByteArray) (hnm : nm.size ≤ 140737488351232) (V : Nd) (vp : Option Addr) (vc : Nat) (hokV : ok1 V) (w : World) (hkP : Kids w anyH (.slice pp P.args.length pc) P.args) (hkV : Kids w anyH (.slice vp V.args.length vc) V.args) :
    Calls Try.prog 5 #[nv P (.slice pp P.args.length pc), .string nm, nv V (.slice vp V.args.length vc)] w fun e w' => e = .returned (.bool true) ∧ Below w.heap.size w w' := by
  by_cases hgr : 100 < cnt V ∨ (cnt V ≤ 100 ∧ 200 < cnt P)
  · exact lets_great P pp pc nm V vp vc w hkP hkV hgr
  have hcV : cnt V ≤ 100 := by omega
  have hcP : cnt P ≤ 200 := by omega
  have HWK : Hid (∀ x : World, Calls Try.prog 8 #[] x fun e w' => e = .returned (.bool true) ∧ Below x.heap.size x w') := works_any
  have hcv := fun (x : World) (k : Below w.heap.size w x) => countA_to (dep V) V 100 vp vc x (Nat.le_refl _) (by decide) (hkV.below k)
  have hcp := fun (x : World) (k : Below w.heap.size w x) => countA_to (dep P) P 200 pp pc x (Nat.le_refl _) (by decide) (hkP.below k)
  obtain ⟨kv, hkv⟩ : ∃ kv : Int, ((min (cnt V) (100 + 1) : Nat) : Int) = kv := ⟨_, rfl⟩
  obtain ⟨kp, hkp⟩ : ∃ kp : Int, ((min (cnt P) (200 + 1) : Nat) : Int) = kp := ⟨_, rfl⟩
  have h1 : ¬ (100 : Int) < kv := by omega
  have h2 : ¬ (200 : Int) < kp := by omega
  rw [hkv] at hcv
  rw [hkp] at hcp
  have hokv : ok1 (keyN V ⟨#[]⟩) := ⟨⟨hokV.1.1, by show (⟨#[]⟩ : ByteArray).size ≤ _; decide, hokV.1.2.2⟩, hokV.2⟩
  have hokp : ok1 (keyN P ⟨#[]⟩) := ⟨⟨hokP.1.1, by show (⟨#[]⟩ : ByteArray).size ≤ _; decide, hokP.1.2.2⟩, hokP.2⟩
  have hokl := ok_let hnm hokv hokp
  have hcl : cnt (letN nm (keyN V ⟨#[]⟩) (keyN P ⟨#[]⟩)) ≤ 301 := by
    rw [cnt_let]
    have e1 : cnt (keyN V ⟨#[]⟩) = cnt V := rfl
    have e2 : cnt (keyN P ⟨#[]⟩) = cnt P := rfl
    omega
  have hcn : cnt (nmN nm (keyN V ⟨#[]⟩) (keyN P ⟨#[]⟩)) ≤ 20000 := by
    have h3 := cnt_nm (nm := nm) (v := keyN V ⟨#[]⟩) (t := keyN P ⟨#[]⟩)
    have e1 : cnt (keyN V ⟨#[]⟩) = cnt V := rfl
    have e2 : cnt (keyN P ⟨#[]⟩) = cnt P := rfl
    rw [e1, e2] at h3
    exact Nat.le_trans h3 (Nat.le_trans (Nat.mul_le_mul hcP hcV) (by decide))
  have hokn := ok_nm (nm := nm) hokv hokp
  have htv := fun (x : World) (k : Below w.heap.size w x) => twin_own (keyN V ⟨#[]⟩) vp vc x (by show cnt V ≤ _; omega) (hkV.below k)
  have htp := fun (x : World) (k : Below w.heap.size w x) => twin_own (keyN P ⟨#[]⟩) pp pc x (by show cnt P ≤ _; omega) (hkP.below k)
  have hck := fun (g : Nat) (x : World) (k : Kids x anyH (.slice (some ⟨g, 0, none⟩) 2 2) [keyN V ⟨#[]⟩, keyN P ⟨#[]⟩]) => rcheck_any (letN nm (keyN V ⟨#[]⟩) (keyN P ⟨#[]⟩)) (some ⟨g, 0, none⟩) 2 x (by omega) hokl k
  obtain ⟨EA, hEA⟩ : ∃ E, expP (letN nm (keyN V ⟨#[]⟩) (keyN P ⟨#[]⟩)) = E := ⟨_, rfl⟩
  obtain ⟨EB, hEB⟩ : ∃ E, expP (nmN nm (keyN V ⟨#[]⟩) (keyN P ⟨#[]⟩)) = E := ⟨_, rfl⟩
  obtain ⟨A, ea, ap⟩ := EA
  obtain ⟨B, eb, bp⟩ := EB
  have hcA := exp_cnt (letN nm (keyN V ⟨#[]⟩) (keyN P ⟨#[]⟩))
  have hcB := exp_cnt (nmN nm (keyN V ⟨#[]⟩) (keyN P ⟨#[]⟩))
  rw [hEA] at hcA
  rw [hEB] at hcB
  simp only at hcA hcB
  have hres : checkP (letN nm (keyN V ⟨#[]⟩) (keyN P ⟨#[]⟩)) = 0 → P.kind = 1 → (ea = 81 ∨ eb = 81 ∨ ea = 82 ∨ eb = 82) ∨ (ea = eb ∧ eqT A B = true) := fun k1 k2 => by
    have := lets_exp k1 (show (keyN P ⟨#[]⟩).kind = 1 from k2)
    rw [hEA, hEB] at this
    exact this
  have he1 := fun (g : Nat) (x : World) (k : Kids x anyH (.slice (some ⟨g, 0, none⟩) 2 2) [keyN V ⟨#[]⟩, keyN P ⟨#[]⟩]) => expand_to (letN nm (keyN V ⟨#[]⟩) (keyN P ⟨#[]⟩)) (some ⟨g, 0, none⟩) 2 x (by omega) hokl k hEA
  have hnm1 := fun (x : World) (k : Below w.heap.size w x) => nm_to nm (keyN V ⟨#[]⟩) x.heap.size (dep (keyN P ⟨#[]⟩)) (keyN P ⟨#[]⟩) pp pc vp vc x (Nat.le_refl _) (by show cnt P ≤ _; omega) (Nat.le_refl _) (hkP.below k) ((hkV.below k).low)
  obtain ⟨N, hN⟩ : ∃ N, nmN nm (keyN V ⟨#[]⟩) (keyN P ⟨#[]⟩) = N := ⟨_, rfl⟩
  rw [hN] at hEB hokn hcn
  have he2 := fun (p : Option Addr) (c : Nat) (x : World) (k : Kids x anyH (.slice p N.args.length c) N.args) => expand_to N p c x (by omega) hokn k hEB
  have heq := fun (p3 p6 : Option Addr) (c3 c6 : Nat) (x : World) (k3 : Kids x anyH (.slice p3 A.args.length c3) A.args) (k6 : Kids x anyH (.slice p6 B.args.length c6) B.args) => requal_to (dep A) A B p3 p6 c3 c6 x (Nat.le_refl _) (by omega) (by omega) k3 k6
  obtain ⟨ck, hckv⟩ : ∃ k, checkP (letN nm (keyN V ⟨#[]⟩) (keyN P ⟨#[]⟩)) = k := ⟨_, rfl⟩
  rw [hckv] at hres hck
  have HRES : Hid (ck = 0 → P.kind = 1 → (ea = 81 ∨ eb = 81 ∨ ea = 82 ∨ eb = 82) ∨ (ea = eb ∧ eqT A B = true)) := hres
  obtain ⟨n, hn⟩ : ∃ n, P.args.length = n := ⟨_, rfl⟩
  obtain ⟨m, hm⟩ : ∃ m, V.args.length = m := ⟨_, rfl⟩
  obtain ⟨na, hna⟩ : ∃ n, A.args.length = n := ⟨_, rfl⟩
  obtain ⟨nb, hnb⟩ : ∃ n, B.args.length = n := ⟨_, rfl⟩
  obtain ⟨nn, hnn⟩ : ∃ n, N.args.length = n := ⟨_, rfl⟩
  have HCV : Hid (∀ x : World, Below w.heap.size w x → Calls Try.prog 14 #[.agg #[.int .i64 V.kind, .string V.name, .int .u32 V.num, .int .i64 V.int_, .string V.key, .slice vp m vc, .int .i64 V.at_], .int .i64 100] x fun e w' => e = .returned (.int .i64 kv) ∧ Below x.heap.size x w') := fun x k => by rw [← hm]; exact hcv x k
  have HCP : Hid (∀ x : World, Below w.heap.size w x → Calls Try.prog 14 #[.agg #[.int .i64 P.kind, .string P.name, .int .u32 P.num, .int .i64 P.int_, .string P.key, .slice pp n pc, .int .i64 P.at_], .int .i64 200] x fun e w' => e = .returned (.int .i64 kp) ∧ Below x.heap.size x w') := fun x k => by rw [← hn]; exact hcp x k
  have HTV : Hid (∀ x : World, Below w.heap.size w x → Calls Try.prog 10 #[.agg #[.int .i64 V.kind, .string V.name, .int .u32 V.num, .int .i64 V.int_, .string ⟨#[]⟩, .slice vp m vc, .int .i64 V.at_]] x fun r w' => ∃ p' c', r = .returned (.agg #[.int .i64 V.kind, .string V.name, .int .u32 V.num, .int .i64 V.int_, .string ⟨#[]⟩, .slice p' m c', .int .i64 V.at_]) ∧ Kids w' (kidH x.heap.size w'.heap.size none) (.slice p' m c') V.args ∧ Below x.heap.size x w') := fun x k => by rw [← hm]; exact htv x k
  have HTP : Hid (∀ x : World, Below w.heap.size w x → Calls Try.prog 10 #[.agg #[.int .i64 P.kind, .string P.name, .int .u32 P.num, .int .i64 P.int_, .string ⟨#[]⟩, .slice pp n pc, .int .i64 P.at_]] x fun r w' => ∃ p' c', r = .returned (.agg #[.int .i64 P.kind, .string P.name, .int .u32 P.num, .int .i64 P.int_, .string ⟨#[]⟩, .slice p' n c', .int .i64 P.at_]) ∧ Kids w' (kidH x.heap.size w'.heap.size none) (.slice p' n c') P.args ∧ Below x.heap.size x w') := fun x k => by rw [← hn]; exact htp x k
  have HCK : Hid (∀ (g : Nat) (x : World), Kids x anyH (.slice (some ⟨g, 0, none⟩) 2 2) [keyN V ⟨#[]⟩, keyN P ⟨#[]⟩] → Calls Try.prog 13 #[.agg #[.int .i64 6, .string nm, .int .u32 0, .int .i64 0, .string ⟨#[]⟩, .slice (some ⟨g, 0, none⟩) 2 2, .int .i64 0]] x fun e w' => e = .returned (.int .i64 ck) ∧ Below x.heap.size x w') := hck
  have HE1 : Hid (∀ (g : Nat) (x : World), Kids x anyH (.slice (some ⟨g, 0, none⟩) 2 2) [keyN V ⟨#[]⟩, keyN P ⟨#[]⟩] → Calls Try.prog 9 #[.agg #[.int .i64 6, .string nm, .int .u32 0, .int .i64 0, .string ⟨#[]⟩, .slice (some ⟨g, 0, none⟩) 2 2, .int .i64 0]] x fun r w' => ∃ p3 c3, r = .returned (.tuple #[.agg #[.int .i64 A.kind, .string A.name, .int .u32 A.num, .int .i64 A.int_, .string A.key, .slice p3 na c3, .int .i64 A.at_], .int .i64 ea, .int .i64 ap]) ∧ Kids w' anyH (.slice p3 na c3) A.args ∧ Below x.heap.size x w') := fun g x k => by rw [← hna]; exact he1 g x k
  have HNM : Hid (∀ x : World, Below w.heap.size w x → Calls Try.prog 15 #[.agg #[.int .i64 P.kind, .string P.name, .int .u32 P.num, .int .i64 P.int_, .string ⟨#[]⟩, .slice pp n pc, .int .i64 P.at_], .string nm, .agg #[.int .i64 V.kind, .string V.name, .int .u32 V.num, .int .i64 V.int_, .string ⟨#[]⟩, .slice vp m vc, .int .i64 V.at_]] x fun r w' => ∃ p5 c5, r = .returned (.agg #[.int .i64 N.kind, .string N.name, .int .u32 N.num, .int .i64 N.int_, .string N.key, .slice p5 nn c5, .int .i64 N.at_]) ∧ Kids w' anyH (.slice p5 nn c5) N.args ∧ Below x.heap.size x w') := fun x k => by
    have h := hnm1 x k
    rw [hN] at h
    rw [← hn, ← hm, ← hnn]
    refine Calls.mono h ?_
    rintro r w' ⟨p', n', c', h1, h2, h3⟩
    obtain ⟨q, d, hv, -⟩ := id h2
    simp only [Value.slice.injEq] at hv
    obtain ⟨rfl, rfl, rfl⟩ := hv
    exact ⟨p', c', h1, h2.weak (fun _ _ _ _ => trivial), h3⟩
  have HE2 : Hid (∀ (p5 : Option Addr) (c5 : Nat) (x : World), Kids x anyH (.slice p5 nn c5) N.args → Calls Try.prog 9 #[.agg #[.int .i64 N.kind, .string N.name, .int .u32 N.num, .int .i64 N.int_, .string N.key, .slice p5 nn c5, .int .i64 N.at_]] x fun r w' => ∃ p6 c6, r = .returned (.tuple #[.agg #[.int .i64 B.kind, .string B.name, .int .u32 B.num, .int .i64 B.int_, .string B.key, .slice p6 nb c6, .int .i64 B.at_], .int .i64 eb, .int .i64 bp]) ∧ Kids w' anyH (.slice p6 nb c6) B.args ∧ Below x.heap.size x w') := fun p5 c5 x k => by
    rw [← hnn] at k ⊢
    rw [← hnb]
    exact he2 p5 c5 x k
  have HEQ : Hid (∀ (p3 p6 : Option Addr) (c3 c6 : Nat) (x : World), Kids x anyH (.slice p3 na c3) A.args → Kids x anyH (.slice p6 nb c6) B.args → Calls Try.prog 16 #[.agg #[.int .i64 A.kind, .string A.name, .int .u32 A.num, .int .i64 A.int_, .string A.key, .slice p3 na c3, .int .i64 A.at_], .agg #[.int .i64 B.kind, .string B.name, .int .u32 B.num, .int .i64 B.int_, .string B.key, .slice p6 nb c6, .int .i64 B.at_]] x fun e w' => e = .returned (.bool (eqT A B)) ∧ Below x.heap.size x w') := fun p3 p6 c3 c6 x k3 k6 => by
    rw [← hna] at k3 ⊢
    rw [← hnb] at k6 ⊢
    exact heq p3 p6 c3 c6 x k3 k6
  rw [hn, hm]
  unfold nv
  clear hcv hcp hkv hkp hokv hokp hokl hcl hcn hokn htv htp hck hEA hEB hcA hcB hres he1 hnm1 hN he2 heq hckv hn hm hna hnb hnn hgr hcV hcP hokP hokV hkP hkV hnm
  obtain ⟨W0, hW0⟩ : ∃ x, (w.alloc (.cells #[.int .i64 P.kind, .string P.name, .int .u32 P.num, .int .i64 P.int_, .string P.key, .slice pp n pc, .int .i64 P.at_] 26)).alloc (.cells #[.int .i64 V.kind, .string V.name, .int .u32 V.num, .int .i64 V.int_, .string V.key, .slice vp m vc, .int .i64 V.at_] 26) = x := ⟨_, rfl⟩
  have HB0 : Hid (Bx2 w W0 #[.int .i64 P.kind, .string P.name, .int .u32 P.num, .int .i64 P.int_, .string P.key, .slice pp n pc, .int .i64 P.at_] #[.int .i64 V.kind, .string V.name, .int .u32 V.num, .int .i64 V.int_, .string V.key, .slice vp m vc, .int .i64 V.at_]) := by show Bx2 _ _ _ _; rw [← hW0]; exact Bx2.mk2 _ _ _
  obtain ⟨⟨y0, y1, y2, y3, y4, y5, y6⟩, -⟩ := sevenA HB0.out.2.2
  go_enter Try.func5, Try.ntmps5
  go_upto_region 5 with (first
    | (go_at_call 14; (with_reducible refine (HCV.out _ HB0.out.b).mono ?_); rintro e v1 ⟨rfl, hb1⟩; have HB1 : Hid (Bx2 w v1 #[.int .i64 P.kind, .string P.name, .int .u32 P.num, .int .i64 P.int_, .string P.key, .slice pp n pc, .int .i64 P.at_] #[.int .i64 V.kind, .string V.name, .int .u32 V.num, .int .i64 V.int_, .string V.key, .slice vp m vc, .int .i64 V.at_]) := HB0.out.below hb1; obtain ⟨⟨a0, a1, a2, a3, a4, a5, a6⟩, -⟩ := sevenA HB1.out.2.1; clear hb1)
    | (go_at_call 14; (with_reducible refine (HCP.out _ HB1.out.b).mono ?_); rintro e v2 ⟨rfl, hb2⟩; have HB2 : Hid (Bx2 w v2 #[.int .i64 P.kind, .string P.name, .int .u32 P.num, .int .i64 P.int_, .string P.key, .slice pp n pc, .int .i64 P.at_] #[.int .i64 V.kind, .string V.name, .int .u32 V.num, .int .i64 V.int_, .string V.key, .slice vp m vc, .int .i64 V.at_]) := HB1.out.below hb2; obtain ⟨⟨d0, d1, d2, d3, d4, d5, d6⟩, dd0, dd1, dd2, dd3, dd4, dd5, dd6⟩ := sevenA HB2.out.2.1; obtain ⟨⟨g0, g1, g2, g3, g4, g5, g6⟩, gg0, gg1, gg2, gg3, gg4, gg5, gg6⟩ := sevenA HB2.out.2.2; clear hb2))
  have hbw := (HB2.out.set2 4 (.string ⟨#[]⟩)).set1 4 (.string ⟨#[]⟩)
  simp only [List.setIfInBounds_toArray, List.set_cons_zero, List.set_cons_succ] at hbw
  obtain ⟨W, hW⟩ : ∃ x, (v2.setCell ⟨w.heap.size + 1, 4, none⟩ (.string ⟨#[]⟩)).setCell ⟨w.heap.size, 4, none⟩ (.string ⟨#[]⟩) = x := ⟨_, rfl⟩
  rw [hW] at hbw ⊢
  have HWB : Hid (Bx2 w W #[.int .i64 P.kind, .string P.name, .int .u32 P.num, .int .i64 P.int_, .string ⟨#[]⟩, .slice pp n pc, .int .i64 P.at_] #[.int .i64 V.kind, .string V.name, .int .u32 V.num, .int .i64 V.int_, .string ⟨#[]⟩, .slice vp m vc, .int .i64 V.at_]) := hbw
  have HWW : Hid (Below w.heap.size w W) := hbw.1
  have HPX : Hid (W.heap[w.heap.size]? = some (.cells #[.int .i64 P.kind, .string P.name, .int .u32 P.num, .int .i64 P.int_, .string ⟨#[]⟩, .slice pp n pc, .int .i64 P.at_] 26)) := hbw.2.1
  have HVX : Hid (W.heap[w.heap.size + 1]? = some (.cells #[.int .i64 V.kind, .string V.name, .int .u32 V.num, .int .i64 V.int_, .string ⟨#[]⟩, .slice vp m vc, .int .i64 V.at_] 26)) := hbw.2.2
  clear hbw hW hW0 y0 y1 y2 y3 y4 y5 y6 a0 a1 a2 a3 a4 a5 a6 d0 d1 d2 d3 d4 d5 d6 dd0 dd1 dd2 dd3 dd4 dd5 dd6 g0 g1 g2 g3 g4 g5 g6 gg0 gg1 gg2 gg3 gg4 gg5 gg6 HB0 HB1 HB2 HCV HCP h1 h2
  go_cut [7] (fun gv wx => ∃ O, gv = .pointer (some ⟨O, 0, none⟩) ∧ Hid (LetB W nm (keyN V ⟨#[]⟩) (keyN P ⟨#[]⟩) O wx))
  case first =>
      refine wp_region_held_drew (S := (fun x => Below W.heap.size W x)) (by kernel_rfl) ?_ (fun hHeld => ?_)
      · ((try dsimp only); first | exact HBz.out | exact bel_d _)
      refine wpAnyH_take (i := 0) (v := ?_) (by simp only [List.getElem?_toArray, List.getElem?_cons_succ, List.getElem?_cons_zero]; rfl) (by kernel_rfl) (by kernel_rfl) (by kernel_rfl) (by exact fun _ _ _ h => h) (Or.inl ⟨by rfl, ?_⟩) (by assumption) ?_
      rotate_left 1
      · (intro wS hSw; have hSb : Below W.heap.size W wS := hSw; clear hSw; obtain ⟨⟨zp0, zp1, zp2, zp3, zp4, zp5, zp6⟩, -⟩ := sevenA ((hSb.block _ (hlt HPX.out)).trans HPX.out); obtain ⟨⟨zv0, zv1, zv2, zv3, zv4, zv5, zv6⟩, -⟩ := sevenA ((hSb.block _ (hlt HVX.out)).trans HVX.out); clear hSb; go_simp; try (with_reducible rfl))
      try simp only [Act.put, List.setIfInBounds_toArray, List.set_cons_zero, List.set_cons_succ]
      refine wpAnyH_take (i := 1) (v := ?_) (by simp only [List.getElem?_toArray, List.getElem?_cons_succ, List.getElem?_cons_zero]; rfl) (by kernel_rfl) (by kernel_rfl) (by kernel_rfl) (by exact fun _ _ _ h => h) (Or.inl ⟨by rfl, ?_⟩) (by assumption) ?_
      rotate_left 1
      · (intro wS hSw; have hSb : Below W.heap.size W wS := hSw; clear hSw; obtain ⟨⟨zp0, zp1, zp2, zp3, zp4, zp5, zp6⟩, -⟩ := sevenA ((hSb.block _ (hlt HPX.out)).trans HPX.out); obtain ⟨⟨zv0, zv1, zv2, zv3, zv4, zv5, zv6⟩, -⟩ := sevenA ((hSb.block _ (hlt HVX.out)).trans HVX.out); clear hSb; go_simp; try (with_reducible rfl))
      try simp only [Act.put, List.setIfInBounds_toArray, List.set_cons_zero, List.set_cons_succ]
      refine wpAnyH_take (i := 3) (v := ?_) (by simp only [List.getElem?_toArray, List.getElem?_cons_succ, List.getElem?_cons_zero]; rfl) (by kernel_rfl) (by kernel_rfl) (by kernel_rfl) (by exact fun _ _ _ h => h) (Or.inl ⟨by rfl, ?_⟩) (by assumption) ?_
      rotate_left 1
      · (intro wS hSw; have hSb : Below W.heap.size W wS := hSw; clear hSw; obtain ⟨⟨zp0, zp1, zp2, zp3, zp4, zp5, zp6⟩, -⟩ := sevenA ((hSb.block _ (hlt HPX.out)).trans HPX.out); obtain ⟨⟨zv0, zv1, zv2, zv3, zv4, zv5, zv6⟩, -⟩ := sevenA ((hSb.block _ (hlt HVX.out)).trans HVX.out); clear hSb; go_simp; try (with_reducible rfl))
      try simp only [Act.put, List.setIfInBounds_toArray, List.set_cons_zero, List.set_cons_succ]
      clear hHeld
      refine wpAnyH_ready (rs := [2, 7]) (by kernel_rfl) (by simp) ?_
      refine AllReadyH.cons (i := 2) (by simp only [List.getElem?_toArray, List.getElem?_cons_succ, List.getElem?_cons_zero]; rfl) (fun K hK => ?_) ?_
      · go_simp
        (go_at_call 10; (with_reducible refine (HTV.out _ (bel HWW.out (bel_d _))).mono ?_); rintro e v2 ⟨p2, c2, rfl, hk2, hb2⟩; have HK2 : Hid (Kids v2 anyH (.slice p2 m c2) V.args) := hk2.weak fun _ _ _ _ => trivial; have HBz : Hid (Below W.heap.size W v2) := bel (bel_d _) hb2; clear hk2 hb2)
        try (go_wp2_with fail)
        refine hK.out _ _ ?_ (fun hHeld => ?_)
        · ((try dsimp only); first | exact HBz.out | exact bel_d _)
        clear hK K
        try simp only [Act.put, List.setIfInBounds_toArray, List.set_cons_zero, List.set_cons_succ]
        clear hHeld
        refine wpAnyH_ready (rs := [4, 7]) (by kernel_rfl) (by simp) ?_
        refine AllReadyH.cons (i := 4) (by simp only [List.getElem?_toArray, List.getElem?_cons_succ, List.getElem?_cons_zero]; rfl) (fun K hK => ?_) ?_
        · go_simp
          (go_at_call 10; (with_reducible refine (HTP.out _ (bel HWW.out HBz.out)).mono ?_); rintro e v4 ⟨p4, c4, rfl, hk4, hb4⟩; have HK4 : Hid (Kids v4 anyH (.slice p4 n c4) P.args) := hk4.weak fun _ _ _ _ => trivial; have HK2 : Hid (Kids v4 anyH (.slice p2 m c2) V.args) := HK2.out.below (by exact hb4); have HBz : Hid (Below W.heap.size W v4) := bel HBz.out hb4; clear hk4 hb4)
          try (go_wp2_with fail)
          refine hK.out _ _ ?_ (fun hHeld => ?_)
          · ((try dsimp only); first | exact HBz.out | exact bel_d _)
          clear hK K
          try simp only [Act.put, List.setIfInBounds_toArray, List.set_cons_zero, List.set_cons_succ]
          clear hHeld
          refine wpAnyH_ready (rs := [5, 7]) (by kernel_rfl) (by simp) ?_
          refine AllReadyH.cons (i := 5) (by simp only [List.getElem?_toArray, List.getElem?_cons_succ, List.getElem?_cons_zero]; rfl) (fun K hK => ?_) ?_
          · go_simp
            obtain ⟨g, hg⟩ : ∃ g, v4.heap.size = g := ⟨_, rfl⟩
            obtain ⟨v5, hv5⟩ : ∃ x, v4.alloc (.cells #[.int .i64 V.kind, .string V.name, .int .u32 V.num, .int .i64 V.int_, .string ⟨#[]⟩, .slice p2 m c2, .int .i64 V.at_, .int .i64 P.kind, .string P.name, .int .u32 P.num, .int .i64 P.int_, .string ⟨#[]⟩, .slice p4 n c4, .int .i64 P.at_] 26) = x := ⟨_, rfl⟩
            have HG : Hid (v5.heap[g]? = some (.cells #[.int .i64 V.kind, .string V.name, .int .u32 V.num, .int .i64 V.int_, .string ⟨#[]⟩, .slice p2 m c2, .int .i64 V.at_, .int .i64 P.kind, .string P.name, .int .u32 P.num, .int .i64 P.int_, .string ⟨#[]⟩, .slice p4 n c4, .int .i64 P.at_] 26)) := by show _ = _; rw [← hv5, ← hg]; exact box_heapA _ _
            have hb5 : Below v4.heap.size v4 v5 := by rw [← hv5]; exact bel_alloc _ _
            have HK2 : Hid (Kids v5 anyH (.slice p2 m c2) V.args) := HK2.out.below hb5
            have HK4 : Hid (Kids v5 anyH (.slice p4 n c4) P.args) := HK4.out.below hb5
            have HBz : Hid (Below W.heap.size W v5) := bel HBz.out hb5
            rw [hv5, hg]
            clear hv5 hg hb5
            refine hK.out _ _ ?_ (fun hHeld => ?_)
            · ((try dsimp only); first | exact HBz.out | exact bel_d _)
            clear hK K
            try simp only [Act.put, List.setIfInBounds_toArray, List.set_cons_zero, List.set_cons_succ]
            refine wpAnyH_take (i := 6) (v := ?_) (by simp only [List.getElem?_toArray, List.getElem?_cons_succ, List.getElem?_cons_zero]; rfl) (by kernel_rfl) (by kernel_rfl) (by kernel_rfl) (by exact fun _ _ _ h => h) (Or.inl ⟨by rfl, ?_⟩) (by assumption) ?_
            rotate_left 1
            · (intro wS hSw; have hSb : Below W.heap.size W wS := hSw; clear hSw; obtain ⟨⟨zp0, zp1, zp2, zp3, zp4, zp5, zp6⟩, -⟩ := sevenA ((hSb.block _ (hlt HPX.out)).trans HPX.out); obtain ⟨⟨zv0, zv1, zv2, zv3, zv4, zv5, zv6⟩, -⟩ := sevenA ((hSb.block _ (hlt HVX.out)).trans HVX.out); clear hSb; go_simp; try (with_reducible rfl))
            try simp only [Act.put, List.setIfInBounds_toArray, List.set_cons_zero, List.set_cons_succ]
            clear hHeld
            refine wpAnyH_ready (rs := [7]) (by kernel_rfl) (by simp) ?_
            refine AllReadyH.cons (i := 7) (by simp only [List.getElem?_toArray, List.getElem?_cons_succ, List.getElem?_cons_zero]; rfl) (fun K hK => ?_) AllReadyH.nil
            go_simp
            obtain ⟨O, hO⟩ : ∃ O, v5.heap.size = O := ⟨_, rfl⟩
            obtain ⟨v7, hv7⟩ : ∃ x, v5.alloc (.cells #[.int .i64 0, .string ⟨#[]⟩, .int .u32 0, .int .i64 0, .string ⟨#[]⟩, .slice none 0 0, .int .i64 0] 26) = x := ⟨_, rfl⟩
            have HO : Hid (v7.heap[O]? = some (.cells #[.int .i64 0, .string ⟨#[]⟩, .int .u32 0, .int .i64 0, .string ⟨#[]⟩, .slice none 0 0, .int .i64 0] 26)) := by show _ = _; rw [← hv7, ← hO]; exact box_heapA v5 _
            have hb7 : Below v5.heap.size v5 v7 := by rw [← hv7]; exact bel_alloc _ _
            have HOS : Hid (W.heap.size ≤ O) := by show _ ≤ _; rw [← hO]; exact HBz.out.size
            have HK2 : Hid (Kids v7 (neH O) (.slice p2 m c2) V.args) := (HK2.out.ne_new (by omega)).below hb7
            have HK4 : Hid (Kids v7 (neH O) (.slice p4 n c4) P.args) := (HK4.out.ne_new (by omega)).below hb7
            have HGO : Hid (g ≠ O) := by have := hlt HG.out; show g ≠ O; omega
            have HG : Hid (v7.heap[g]? = some (.cells #[.int .i64 V.kind, .string V.name, .int .u32 V.num, .int .i64 V.int_, .string ⟨#[]⟩, .slice p2 m c2, .int .i64 V.at_, .int .i64 P.kind, .string P.name, .int .u32 P.num, .int .i64 P.int_, .string ⟨#[]⟩, .slice p4 n c4, .int .i64 P.at_] 26)) := (hb7.block _ (hlt HG.out)).trans HG.out
            have HBz : Hid (Below W.heap.size W v7) := bel HBz.out hb7
            rw [hv7, hO]
            clear hv7 hO hb7
            refine hK.out _ _ ?_ (fun hHeld => ?_)
            · ((try dsimp only); first | exact HBz.out | exact bel_d _)
            clear hK K
            try simp only [Act.put, List.setIfInBounds_toArray, List.set_cons_zero, List.set_cons_succ]
            clear hHeld
            refine wpAnyH_ready (rs := [8]) (by kernel_rfl) (by simp) ?_
            refine AllReadyH.cons (i := 8) (by simp only [List.getElem?_toArray, List.getElem?_cons_succ, List.getElem?_cons_zero]; rfl) (fun K hK => ?_) AllReadyH.nil
            obtain ⟨⟨m0, m1, m2, m3, m4, m5, m6⟩, e0, e1, e2, e3, e4, e5, e6⟩ := sevenA HO.out
            go_simp
            have hst := let_box (nm := nm) (v := keyN V ⟨#[]⟩) (p := keyN P ⟨#[]⟩) HBz.out HOS.out HO.out HGO.out HG.out HK2.out HK4.out
            obtain ⟨U, hU⟩ : ∃ U, (((((((v7.setCell ⟨O, 0, none⟩ (.int .i64 6)).setCell ⟨O, 1, none⟩ (.string nm)).setCell ⟨O, 2, none⟩ (.int .u32 0)).setCell ⟨O, 3, none⟩ (.int .i64 0)).setCell ⟨O, 4, none⟩ (.string ⟨#[]⟩)).setCell ⟨O, 5, none⟩ (.slice (some ⟨g, 0, none⟩) 2 2)).setCell ⟨O, 6, none⟩ (.int .i64 0)) = U := ⟨_, rfl⟩
            rw [hU] at hst
            try rw [hU]
            have HST : Hid (LetB W nm (keyN V ⟨#[]⟩) (keyN P ⟨#[]⟩) O U) := hst
            have HBz : Hid (Below W.heap.size W U) := hst.1
            clear hU hst m0 m1 m2 m3 m4 m5 m6 e0 e1 e2 e3 e4 e5 e6
            refine hK.out _ _ ?_ (fun hHeld => ?_)
            · ((try dsimp only); first | exact HBz.out | exact bel_d _)
            clear hK K
            try simp only [Act.put, List.setIfInBounds_toArray, List.set_cons_zero, List.set_cons_succ]
            refine wpAnyH_done (by kernel_rfl) ?_ _
            clear hHeld
            go_wp2_with fail
            go_meet
            exact ⟨O, rfl, HST.out⟩
          refine AllReadyH.cons (i := 7) (by simp only [List.getElem?_toArray, List.getElem?_cons_succ, List.getElem?_cons_zero]; rfl) (fun K hK => ?_) AllReadyH.nil
          go_simp
          obtain ⟨O, hO⟩ : ∃ O, v4.heap.size = O := ⟨_, rfl⟩
          obtain ⟨v7, hv7⟩ : ∃ x, v4.alloc (.cells #[.int .i64 0, .string ⟨#[]⟩, .int .u32 0, .int .i64 0, .string ⟨#[]⟩, .slice none 0 0, .int .i64 0] 26) = x := ⟨_, rfl⟩
          have HO : Hid (v7.heap[O]? = some (.cells #[.int .i64 0, .string ⟨#[]⟩, .int .u32 0, .int .i64 0, .string ⟨#[]⟩, .slice none 0 0, .int .i64 0] 26)) := by show _ = _; rw [← hv7, ← hO]; exact box_heapA v4 _
          have hb7 : Below v4.heap.size v4 v7 := by rw [← hv7]; exact bel_alloc _ _
          have HOS : Hid (W.heap.size ≤ O) := by show _ ≤ _; rw [← hO]; exact HBz.out.size
          have HK2 : Hid (Kids v7 (neH O) (.slice p2 m c2) V.args) := (HK2.out.ne_new (by omega)).below hb7
          have HK4 : Hid (Kids v7 (neH O) (.slice p4 n c4) P.args) := (HK4.out.ne_new (by omega)).below hb7
          have HBz : Hid (Below W.heap.size W v7) := bel HBz.out hb7
          rw [hv7, hO]
          clear hv7 hO hb7
          refine hK.out _ _ ?_ (fun hHeld => ?_)
          · ((try dsimp only); first | exact HBz.out | exact bel_d _)
          clear hK K
          try simp only [Act.put, List.setIfInBounds_toArray, List.set_cons_zero, List.set_cons_succ]
          clear hHeld
          refine wpAnyH_ready (rs := [5]) (by kernel_rfl) (by simp) ?_
          refine AllReadyH.cons (i := 5) (by simp only [List.getElem?_toArray, List.getElem?_cons_succ, List.getElem?_cons_zero]; rfl) (fun K hK => ?_) AllReadyH.nil
          go_simp
          obtain ⟨g, hg⟩ : ∃ g, v7.heap.size = g := ⟨_, rfl⟩
          obtain ⟨v5, hv5⟩ : ∃ x, v7.alloc (.cells #[.int .i64 V.kind, .string V.name, .int .u32 V.num, .int .i64 V.int_, .string ⟨#[]⟩, .slice p2 m c2, .int .i64 V.at_, .int .i64 P.kind, .string P.name, .int .u32 P.num, .int .i64 P.int_, .string ⟨#[]⟩, .slice p4 n c4, .int .i64 P.at_] 26) = x := ⟨_, rfl⟩
          have HG : Hid (v5.heap[g]? = some (.cells #[.int .i64 V.kind, .string V.name, .int .u32 V.num, .int .i64 V.int_, .string ⟨#[]⟩, .slice p2 m c2, .int .i64 V.at_, .int .i64 P.kind, .string P.name, .int .u32 P.num, .int .i64 P.int_, .string ⟨#[]⟩, .slice p4 n c4, .int .i64 P.at_] 26)) := by show _ = _; rw [← hv5, ← hg]; exact box_heapA _ _
          have hb5 : Below v7.heap.size v7 v5 := by rw [← hv5]; exact bel_alloc _ _
          have HGO : Hid (g ≠ O) := by have := hlt HO.out; show g ≠ O; omega
          have HO : Hid (v5.heap[O]? = some (.cells #[.int .i64 0, .string ⟨#[]⟩, .int .u32 0, .int .i64 0, .string ⟨#[]⟩, .slice none 0 0, .int .i64 0] 26)) := (hb5.block _ (hlt HO.out)).trans HO.out
          have HK2 : Hid (Kids v5 (neH O) (.slice p2 m c2) V.args) := HK2.out.below hb5
          have HK4 : Hid (Kids v5 (neH O) (.slice p4 n c4) P.args) := HK4.out.below hb5
          have HBz : Hid (Below W.heap.size W v5) := bel HBz.out hb5
          rw [hv5, hg]
          clear hv5 hg hb5
          refine hK.out _ _ ?_ (fun hHeld => ?_)
          · ((try dsimp only); first | exact HBz.out | exact bel_d _)
          clear hK K
          try simp only [Act.put, List.setIfInBounds_toArray, List.set_cons_zero, List.set_cons_succ]
          refine wpAnyH_take (i := 6) (v := ?_) (by simp only [List.getElem?_toArray, List.getElem?_cons_succ, List.getElem?_cons_zero]; rfl) (by kernel_rfl) (by kernel_rfl) (by kernel_rfl) (by exact fun _ _ _ h => h) (Or.inl ⟨by rfl, ?_⟩) (by assumption) ?_
          rotate_left 1
          · (intro wS hSw; have hSb : Below W.heap.size W wS := hSw; clear hSw; obtain ⟨⟨zp0, zp1, zp2, zp3, zp4, zp5, zp6⟩, -⟩ := sevenA ((hSb.block _ (hlt HPX.out)).trans HPX.out); obtain ⟨⟨zv0, zv1, zv2, zv3, zv4, zv5, zv6⟩, -⟩ := sevenA ((hSb.block _ (hlt HVX.out)).trans HVX.out); clear hSb; go_simp; try (with_reducible rfl))
          try simp only [Act.put, List.setIfInBounds_toArray, List.set_cons_zero, List.set_cons_succ]
          clear hHeld
          refine wpAnyH_ready (rs := [8]) (by kernel_rfl) (by simp) ?_
          refine AllReadyH.cons (i := 8) (by simp only [List.getElem?_toArray, List.getElem?_cons_succ, List.getElem?_cons_zero]; rfl) (fun K hK => ?_) AllReadyH.nil
          obtain ⟨⟨m0, m1, m2, m3, m4, m5, m6⟩, e0, e1, e2, e3, e4, e5, e6⟩ := sevenA HO.out
          go_simp
          have hst := let_box (nm := nm) (v := keyN V ⟨#[]⟩) (p := keyN P ⟨#[]⟩) HBz.out HOS.out HO.out HGO.out HG.out HK2.out HK4.out
          obtain ⟨U, hU⟩ : ∃ U, (((((((v5.setCell ⟨O, 0, none⟩ (.int .i64 6)).setCell ⟨O, 1, none⟩ (.string nm)).setCell ⟨O, 2, none⟩ (.int .u32 0)).setCell ⟨O, 3, none⟩ (.int .i64 0)).setCell ⟨O, 4, none⟩ (.string ⟨#[]⟩)).setCell ⟨O, 5, none⟩ (.slice (some ⟨g, 0, none⟩) 2 2)).setCell ⟨O, 6, none⟩ (.int .i64 0)) = U := ⟨_, rfl⟩
          rw [hU] at hst
          try rw [hU]
          have HST : Hid (LetB W nm (keyN V ⟨#[]⟩) (keyN P ⟨#[]⟩) O U) := hst
          have HBz : Hid (Below W.heap.size W U) := hst.1
          clear hU hst m0 m1 m2 m3 m4 m5 m6 e0 e1 e2 e3 e4 e5 e6
          refine hK.out _ _ ?_ (fun hHeld => ?_)
          · ((try dsimp only); first | exact HBz.out | exact bel_d _)
          clear hK K
          try simp only [Act.put, List.setIfInBounds_toArray, List.set_cons_zero, List.set_cons_succ]
          refine wpAnyH_done (by kernel_rfl) ?_ _
          clear hHeld
          go_wp2_with fail
          go_meet
          exact ⟨O, rfl, HST.out⟩
        refine AllReadyH.cons (i := 7) (by simp only [List.getElem?_toArray, List.getElem?_cons_succ, List.getElem?_cons_zero]; rfl) (fun K hK => ?_) AllReadyH.nil
        go_simp
        obtain ⟨O, hO⟩ : ∃ O, v2.heap.size = O := ⟨_, rfl⟩
        obtain ⟨v7, hv7⟩ : ∃ x, v2.alloc (.cells #[.int .i64 0, .string ⟨#[]⟩, .int .u32 0, .int .i64 0, .string ⟨#[]⟩, .slice none 0 0, .int .i64 0] 26) = x := ⟨_, rfl⟩
        have HO : Hid (v7.heap[O]? = some (.cells #[.int .i64 0, .string ⟨#[]⟩, .int .u32 0, .int .i64 0, .string ⟨#[]⟩, .slice none 0 0, .int .i64 0] 26)) := by show _ = _; rw [← hv7, ← hO]; exact box_heapA v2 _
        have hb7 : Below v2.heap.size v2 v7 := by rw [← hv7]; exact bel_alloc _ _
        have HOS : Hid (W.heap.size ≤ O) := by show _ ≤ _; rw [← hO]; exact HBz.out.size
        have HK2 : Hid (Kids v7 (neH O) (.slice p2 m c2) V.args) := (HK2.out.ne_new (by omega)).below hb7
        have HBz : Hid (Below W.heap.size W v7) := bel HBz.out hb7
        rw [hv7, hO]
        clear hv7 hO hb7
        refine hK.out _ _ ?_ (fun hHeld => ?_)
        · ((try dsimp only); first | exact HBz.out | exact bel_d _)
        clear hK K
        try simp only [Act.put, List.setIfInBounds_toArray, List.set_cons_zero, List.set_cons_succ]
        clear hHeld
        refine wpAnyH_ready (rs := [4]) (by kernel_rfl) (by simp) ?_
        refine AllReadyH.cons (i := 4) (by simp only [List.getElem?_toArray, List.getElem?_cons_succ, List.getElem?_cons_zero]; rfl) (fun K hK => ?_) AllReadyH.nil
        go_simp
        (go_at_call 10; (with_reducible refine (HTP.out _ (bel HWW.out HBz.out)).mono ?_); rintro e v4 ⟨p4, c4, rfl, hk4, hb4⟩; have HK4 : Hid (Kids v4 (neH O) (.slice p4 n c4) P.args) := hk4.ne_old (hlt HO.out); have HK2 : Hid (Kids v4 (neH O) (.slice p2 m c2) V.args) := HK2.out.below (by exact hb4); have HO : Hid (v4.heap[O]? = some (.cells #[.int .i64 0, .string ⟨#[]⟩, .int .u32 0, .int .i64 0, .string ⟨#[]⟩, .slice none 0 0, .int .i64 0] 26)) := (by show _ = _; rw [hb4.block _ (hlt HO.out)]; exact HO.out); have HBz : Hid (Below W.heap.size W v4) := bel HBz.out hb4; clear hk4 hb4)
        try (go_wp2_with fail)
        refine hK.out _ _ ?_ (fun hHeld => ?_)
        · ((try dsimp only); first | exact HBz.out | exact bel_d _)
        clear hK K
        try simp only [Act.put, List.setIfInBounds_toArray, List.set_cons_zero, List.set_cons_succ]
        clear hHeld
        refine wpAnyH_ready (rs := [5]) (by kernel_rfl) (by simp) ?_
        refine AllReadyH.cons (i := 5) (by simp only [List.getElem?_toArray, List.getElem?_cons_succ, List.getElem?_cons_zero]; rfl) (fun K hK => ?_) AllReadyH.nil
        go_simp
        obtain ⟨g, hg⟩ : ∃ g, v4.heap.size = g := ⟨_, rfl⟩
        obtain ⟨v5, hv5⟩ : ∃ x, v4.alloc (.cells #[.int .i64 V.kind, .string V.name, .int .u32 V.num, .int .i64 V.int_, .string ⟨#[]⟩, .slice p2 m c2, .int .i64 V.at_, .int .i64 P.kind, .string P.name, .int .u32 P.num, .int .i64 P.int_, .string ⟨#[]⟩, .slice p4 n c4, .int .i64 P.at_] 26) = x := ⟨_, rfl⟩
        have HG : Hid (v5.heap[g]? = some (.cells #[.int .i64 V.kind, .string V.name, .int .u32 V.num, .int .i64 V.int_, .string ⟨#[]⟩, .slice p2 m c2, .int .i64 V.at_, .int .i64 P.kind, .string P.name, .int .u32 P.num, .int .i64 P.int_, .string ⟨#[]⟩, .slice p4 n c4, .int .i64 P.at_] 26)) := by show _ = _; rw [← hv5, ← hg]; exact box_heapA _ _
        have hb5 : Below v4.heap.size v4 v5 := by rw [← hv5]; exact bel_alloc _ _
        have HGO : Hid (g ≠ O) := by have := hlt HO.out; show g ≠ O; omega
        have HO : Hid (v5.heap[O]? = some (.cells #[.int .i64 0, .string ⟨#[]⟩, .int .u32 0, .int .i64 0, .string ⟨#[]⟩, .slice none 0 0, .int .i64 0] 26)) := (hb5.block _ (hlt HO.out)).trans HO.out
        have HK2 : Hid (Kids v5 (neH O) (.slice p2 m c2) V.args) := HK2.out.below hb5
        have HK4 : Hid (Kids v5 (neH O) (.slice p4 n c4) P.args) := HK4.out.below hb5
        have HBz : Hid (Below W.heap.size W v5) := bel HBz.out hb5
        rw [hv5, hg]
        clear hv5 hg hb5
        refine hK.out _ _ ?_ (fun hHeld => ?_)
        · ((try dsimp only); first | exact HBz.out | exact bel_d _)
        clear hK K
        try simp only [Act.put, List.setIfInBounds_toArray, List.set_cons_zero, List.set_cons_succ]
        refine wpAnyH_take (i := 6) (v := ?_) (by simp only [List.getElem?_toArray, List.getElem?_cons_succ, List.getElem?_cons_zero]; rfl) (by kernel_rfl) (by kernel_rfl) (by kernel_rfl) (by exact fun _ _ _ h => h) (Or.inl ⟨by rfl, ?_⟩) (by assumption) ?_
        rotate_left 1
        · (intro wS hSw; have hSb : Below W.heap.size W wS := hSw; clear hSw; obtain ⟨⟨zp0, zp1, zp2, zp3, zp4, zp5, zp6⟩, -⟩ := sevenA ((hSb.block _ (hlt HPX.out)).trans HPX.out); obtain ⟨⟨zv0, zv1, zv2, zv3, zv4, zv5, zv6⟩, -⟩ := sevenA ((hSb.block _ (hlt HVX.out)).trans HVX.out); clear hSb; go_simp; try (with_reducible rfl))
        try simp only [Act.put, List.setIfInBounds_toArray, List.set_cons_zero, List.set_cons_succ]
        clear hHeld
        refine wpAnyH_ready (rs := [8]) (by kernel_rfl) (by simp) ?_
        refine AllReadyH.cons (i := 8) (by simp only [List.getElem?_toArray, List.getElem?_cons_succ, List.getElem?_cons_zero]; rfl) (fun K hK => ?_) AllReadyH.nil
        obtain ⟨⟨m0, m1, m2, m3, m4, m5, m6⟩, e0, e1, e2, e3, e4, e5, e6⟩ := sevenA HO.out
        go_simp
        have hst := let_box (nm := nm) (v := keyN V ⟨#[]⟩) (p := keyN P ⟨#[]⟩) HBz.out HOS.out HO.out HGO.out HG.out HK2.out HK4.out
        obtain ⟨U, hU⟩ : ∃ U, (((((((v5.setCell ⟨O, 0, none⟩ (.int .i64 6)).setCell ⟨O, 1, none⟩ (.string nm)).setCell ⟨O, 2, none⟩ (.int .u32 0)).setCell ⟨O, 3, none⟩ (.int .i64 0)).setCell ⟨O, 4, none⟩ (.string ⟨#[]⟩)).setCell ⟨O, 5, none⟩ (.slice (some ⟨g, 0, none⟩) 2 2)).setCell ⟨O, 6, none⟩ (.int .i64 0)) = U := ⟨_, rfl⟩
        rw [hU] at hst
        try rw [hU]
        have HST : Hid (LetB W nm (keyN V ⟨#[]⟩) (keyN P ⟨#[]⟩) O U) := hst
        have HBz : Hid (Below W.heap.size W U) := hst.1
        clear hU hst m0 m1 m2 m3 m4 m5 m6 e0 e1 e2 e3 e4 e5 e6
        refine hK.out _ _ ?_ (fun hHeld => ?_)
        · ((try dsimp only); first | exact HBz.out | exact bel_d _)
        clear hK K
        try simp only [Act.put, List.setIfInBounds_toArray, List.set_cons_zero, List.set_cons_succ]
        refine wpAnyH_done (by kernel_rfl) ?_ _
        clear hHeld
        go_wp2_with fail
        go_meet
        exact ⟨O, rfl, HST.out⟩
      refine AllReadyH.cons (i := 7) (by simp only [List.getElem?_toArray, List.getElem?_cons_succ, List.getElem?_cons_zero]; rfl) (fun K hK => ?_) AllReadyH.nil
      go_simp
      obtain ⟨O, hO⟩ : ∃ O, W.heap.size = O := ⟨_, rfl⟩
      obtain ⟨v7, hv7⟩ : ∃ x, (W.alloc (.cells #[.int .i64 0, .string ⟨#[]⟩, .int .u32 0, .int .i64 0, .string ⟨#[]⟩, .slice none 0 0, .int .i64 0] 26)).drew = x := ⟨_, rfl⟩
      have HO : Hid (v7.heap[O]? = some (.cells #[.int .i64 0, .string ⟨#[]⟩, .int .u32 0, .int .i64 0, .string ⟨#[]⟩, .slice none 0 0, .int .i64 0] 26)) := by show _ = _; rw [← hv7, ← hO]; exact box_heapA W _
      have hb7 : Below W.heap.size W v7 := by rw [← hv7]; exact bel (bel_alloc _ _) (bel_d _)
      have HOS : Hid (W.heap.size ≤ O) := by show _ ≤ _; rw [← hO]; exact Nat.le_refl _
      have HBz : Hid (Below W.heap.size W v7) := hb7
      rw [hv7, hO]
      clear hv7 hO hb7
      refine hK.out _ _ ?_ (fun hHeld => ?_)
      · ((try dsimp only); first | exact HBz.out | exact bel_d _)
      clear hK K
      try simp only [Act.put, List.setIfInBounds_toArray, List.set_cons_zero, List.set_cons_succ]
      clear hHeld
      refine wpAnyH_ready (rs := [2]) (by kernel_rfl) (by simp) ?_
      refine AllReadyH.cons (i := 2) (by simp only [List.getElem?_toArray, List.getElem?_cons_succ, List.getElem?_cons_zero]; rfl) (fun K hK => ?_) AllReadyH.nil
      go_simp
      (go_at_call 10; (with_reducible refine (HTV.out _ (bel HWW.out HBz.out)).mono ?_); rintro e v2 ⟨p2, c2, rfl, hk2, hb2⟩; have HK2 : Hid (Kids v2 (neH O) (.slice p2 m c2) V.args) := hk2.ne_old (hlt HO.out); have HO : Hid (v2.heap[O]? = some (.cells #[.int .i64 0, .string ⟨#[]⟩, .int .u32 0, .int .i64 0, .string ⟨#[]⟩, .slice none 0 0, .int .i64 0] 26)) := (by show _ = _; rw [hb2.block _ (hlt HO.out)]; exact HO.out); have HBz : Hid (Below W.heap.size W v2) := bel HBz.out hb2; clear hk2 hb2)
      try (go_wp2_with fail)
      refine hK.out _ _ ?_ (fun hHeld => ?_)
      · ((try dsimp only); first | exact HBz.out | exact bel_d _)
      clear hK K
      try simp only [Act.put, List.setIfInBounds_toArray, List.set_cons_zero, List.set_cons_succ]
      clear hHeld
      refine wpAnyH_ready (rs := [4]) (by kernel_rfl) (by simp) ?_
      refine AllReadyH.cons (i := 4) (by simp only [List.getElem?_toArray, List.getElem?_cons_succ, List.getElem?_cons_zero]; rfl) (fun K hK => ?_) AllReadyH.nil
      go_simp
      (go_at_call 10; (with_reducible refine (HTP.out _ (bel HWW.out HBz.out)).mono ?_); rintro e v4 ⟨p4, c4, rfl, hk4, hb4⟩; have HK4 : Hid (Kids v4 (neH O) (.slice p4 n c4) P.args) := hk4.ne_old (hlt HO.out); have HK2 : Hid (Kids v4 (neH O) (.slice p2 m c2) V.args) := HK2.out.below (by exact hb4); have HO : Hid (v4.heap[O]? = some (.cells #[.int .i64 0, .string ⟨#[]⟩, .int .u32 0, .int .i64 0, .string ⟨#[]⟩, .slice none 0 0, .int .i64 0] 26)) := (by show _ = _; rw [hb4.block _ (hlt HO.out)]; exact HO.out); have HBz : Hid (Below W.heap.size W v4) := bel HBz.out hb4; clear hk4 hb4)
      try (go_wp2_with fail)
      refine hK.out _ _ ?_ (fun hHeld => ?_)
      · ((try dsimp only); first | exact HBz.out | exact bel_d _)
      clear hK K
      try simp only [Act.put, List.setIfInBounds_toArray, List.set_cons_zero, List.set_cons_succ]
      clear hHeld
      refine wpAnyH_ready (rs := [5]) (by kernel_rfl) (by simp) ?_
      refine AllReadyH.cons (i := 5) (by simp only [List.getElem?_toArray, List.getElem?_cons_succ, List.getElem?_cons_zero]; rfl) (fun K hK => ?_) AllReadyH.nil
      go_simp
      obtain ⟨g, hg⟩ : ∃ g, v4.heap.size = g := ⟨_, rfl⟩
      obtain ⟨v5, hv5⟩ : ∃ x, v4.alloc (.cells #[.int .i64 V.kind, .string V.name, .int .u32 V.num, .int .i64 V.int_, .string ⟨#[]⟩, .slice p2 m c2, .int .i64 V.at_, .int .i64 P.kind, .string P.name, .int .u32 P.num, .int .i64 P.int_, .string ⟨#[]⟩, .slice p4 n c4, .int .i64 P.at_] 26) = x := ⟨_, rfl⟩
      have HG : Hid (v5.heap[g]? = some (.cells #[.int .i64 V.kind, .string V.name, .int .u32 V.num, .int .i64 V.int_, .string ⟨#[]⟩, .slice p2 m c2, .int .i64 V.at_, .int .i64 P.kind, .string P.name, .int .u32 P.num, .int .i64 P.int_, .string ⟨#[]⟩, .slice p4 n c4, .int .i64 P.at_] 26)) := by show _ = _; rw [← hv5, ← hg]; exact box_heapA _ _
      have hb5 : Below v4.heap.size v4 v5 := by rw [← hv5]; exact bel_alloc _ _
      have HGO : Hid (g ≠ O) := by have := hlt HO.out; show g ≠ O; omega
      have HO : Hid (v5.heap[O]? = some (.cells #[.int .i64 0, .string ⟨#[]⟩, .int .u32 0, .int .i64 0, .string ⟨#[]⟩, .slice none 0 0, .int .i64 0] 26)) := (hb5.block _ (hlt HO.out)).trans HO.out
      have HK2 : Hid (Kids v5 (neH O) (.slice p2 m c2) V.args) := HK2.out.below hb5
      have HK4 : Hid (Kids v5 (neH O) (.slice p4 n c4) P.args) := HK4.out.below hb5
      have HBz : Hid (Below W.heap.size W v5) := bel HBz.out hb5
      rw [hv5, hg]
      clear hv5 hg hb5
      refine hK.out _ _ ?_ (fun hHeld => ?_)
      · ((try dsimp only); first | exact HBz.out | exact bel_d _)
      clear hK K
      try simp only [Act.put, List.setIfInBounds_toArray, List.set_cons_zero, List.set_cons_succ]
      refine wpAnyH_take (i := 6) (v := ?_) (by simp only [List.getElem?_toArray, List.getElem?_cons_succ, List.getElem?_cons_zero]; rfl) (by kernel_rfl) (by kernel_rfl) (by kernel_rfl) (by exact fun _ _ _ h => h) (Or.inl ⟨by rfl, ?_⟩) (by assumption) ?_
      rotate_left 1
      · (intro wS hSw; have hSb : Below W.heap.size W wS := hSw; clear hSw; obtain ⟨⟨zp0, zp1, zp2, zp3, zp4, zp5, zp6⟩, -⟩ := sevenA ((hSb.block _ (hlt HPX.out)).trans HPX.out); obtain ⟨⟨zv0, zv1, zv2, zv3, zv4, zv5, zv6⟩, -⟩ := sevenA ((hSb.block _ (hlt HVX.out)).trans HVX.out); clear hSb; go_simp; try (with_reducible rfl))
      try simp only [Act.put, List.setIfInBounds_toArray, List.set_cons_zero, List.set_cons_succ]
      clear hHeld
      refine wpAnyH_ready (rs := [8]) (by kernel_rfl) (by simp) ?_
      refine AllReadyH.cons (i := 8) (by simp only [List.getElem?_toArray, List.getElem?_cons_succ, List.getElem?_cons_zero]; rfl) (fun K hK => ?_) AllReadyH.nil
      obtain ⟨⟨m0, m1, m2, m3, m4, m5, m6⟩, e0, e1, e2, e3, e4, e5, e6⟩ := sevenA HO.out
      go_simp
      have hst := let_box (nm := nm) (v := keyN V ⟨#[]⟩) (p := keyN P ⟨#[]⟩) HBz.out HOS.out HO.out HGO.out HG.out HK2.out HK4.out
      obtain ⟨U, hU⟩ : ∃ U, (((((((v5.setCell ⟨O, 0, none⟩ (.int .i64 6)).setCell ⟨O, 1, none⟩ (.string nm)).setCell ⟨O, 2, none⟩ (.int .u32 0)).setCell ⟨O, 3, none⟩ (.int .i64 0)).setCell ⟨O, 4, none⟩ (.string ⟨#[]⟩)).setCell ⟨O, 5, none⟩ (.slice (some ⟨g, 0, none⟩) 2 2)).setCell ⟨O, 6, none⟩ (.int .i64 0)) = U := ⟨_, rfl⟩
      rw [hU] at hst
      try rw [hU]
      have HST : Hid (LetB W nm (keyN V ⟨#[]⟩) (keyN P ⟨#[]⟩) O U) := hst
      have HBz : Hid (Below W.heap.size W U) := hst.1
      clear hU hst m0 m1 m2 m3 m4 m5 m6 e0 e1 e2 e3 e4 e5 e6
      refine hK.out _ _ ?_ (fun hHeld => ?_)
      · ((try dsimp only); first | exact HBz.out | exact bel_d _)
      clear hK K
      try simp only [Act.put, List.setIfInBounds_toArray, List.set_cons_zero, List.set_cons_succ]
      refine wpAnyH_done (by kernel_rfl) ?_ _
      clear hHeld
      go_wp2_with fail
      go_meet
      exact ⟨O, rfl, HST.out⟩
  case rest =>
    obtain ⟨O, rfl, HST⟩ := hcut
    obtain ⟨hbW, g, hO, hkg⟩ := HST.out
    have HBc : Hid (Bx2 w wc #[.int .i64 P.kind, .string P.name, .int .u32 P.num, .int .i64 P.int_, .string ⟨#[]⟩, .slice pp n pc, .int .i64 P.at_] #[.int .i64 V.kind, .string V.name, .int .u32 V.num, .int .i64 V.int_, .string ⟨#[]⟩, .slice vp m vc, .int .i64 V.at_]) := HWB.out.below hbW
    have HKg : Hid (Kids wc anyH (.slice (some ⟨g, 0, none⟩) 2 2) [keyN V ⟨#[]⟩, keyN P ⟨#[]⟩]) := hkg
    have HOc := hidM hO
    obtain ⟨⟨l0, l1, l2, l3, l4, l5, l6⟩, -⟩ := sevenA hO
    clear hbW hO hkg HST HTV HTP HPX HVX HWB HWW
    have hP3 : Hid (∀ x, Below wc.heap.size wc x → Bx2 w x #[.int .i64 P.kind, .string P.name, .int .u32 P.num, .int .i64 P.int_, .string ⟨#[]⟩, .slice pp n pc, .int .i64 P.at_] #[.int .i64 V.kind, .string V.name, .int .u32 V.num, .int .i64 V.int_, .string ⟨#[]⟩, .slice vp m vc, .int .i64 V.at_]) := fun x k => HBc.out.below k
    by_cases hk0 : ck = 0
    · subst hk0
      by_cases hk1 : P.kind = 1
      · have e1 : (P.kind == 1) = true := by simpa using hk1
        have hR := HRES.out rfl hk1
        have HR : Hid ((ea = 81 ∨ eb = 81 ∨ ea = 82 ∨ eb = 82) ∨ (ea = eb ∧ eqT A B = true)) := hR
        clear hR HRES hk1
        go_upto_region 9 with (first
          | (go_at_call 13; (with_reducible refine (HCK.out _ _ HKg.out).mono ?_); rintro e v3 ⟨rfl, hb3⟩; have HB3 : Hid (Bx2 w v3 #[.int .i64 P.kind, .string P.name, .int .u32 P.num, .int .i64 P.int_, .string ⟨#[]⟩, .slice pp n pc, .int .i64 P.at_] #[.int .i64 V.kind, .string V.name, .int .u32 V.num, .int .i64 V.int_, .string ⟨#[]⟩, .slice vp m vc, .int .i64 V.at_]) := hP3.out _ hb3; have HKg3 := hidM (HKg.out.below hb3); have HO3 := hidM ((hb3.block _ (hlt HOc.out)).trans HOc.out); obtain ⟨⟨k0, k1, k2, k3, k4, k5, k6⟩, -⟩ := sevenA HO3.out; obtain ⟨⟨j0, j1, j2, j3, j4, j5, j6⟩, -⟩ := sevenA HB3.out.2.1; clear hb3)
          | (go_at_call 9; (with_reducible refine (HE1.out _ _ HKg3.out).mono ?_); rintro e v4 ⟨p3, c3, rfl, hk4, hb4⟩; have HK4 := hidM hk4; have HB4 : Hid (Bx2 w v4 #[.int .i64 P.kind, .string P.name, .int .u32 P.num, .int .i64 P.int_, .string ⟨#[]⟩, .slice pp n pc, .int .i64 P.at_] #[.int .i64 V.kind, .string V.name, .int .u32 V.num, .int .i64 V.int_, .string ⟨#[]⟩, .slice vp m vc, .int .i64 V.at_]) := HB3.out.below hb4; clear hk4 hb4; obtain ⟨W4, hW4, hX4, hB4, -⟩ := new_box v4; obtain ⟨⟨q0, q1, q2, q3, q4, q5, q6⟩, r0, r1, r2, r3, r4, r5, r6⟩ := sevenA hX4; have HXB4 := hidM hX4; have HBB4 := hidM hB4; clear hX4 hB4))
        have hx4 := put_sevenA HXB4.out (.int .i64 A.kind) (.string A.name) (.int .u32 A.num) (.int .i64 A.int_) (.string A.key) (.slice p3 na c3) (.int .i64 A.at_)
        have hb4 := below_seven HBB4.out (.int .i64 A.kind) (.string A.name) (.int .u32 A.num) (.int .i64 A.int_) (.string A.key) (.slice p3 na c3) (.int .i64 A.at_)
        obtain ⟨U4, hU4⟩ : ∃ UU, (((((((W4.setCell ⟨v4.heap.size, 0, none⟩ (.int .i64 A.kind)).setCell ⟨v4.heap.size, 1, none⟩ (.string A.name)).setCell ⟨v4.heap.size, 2, none⟩ (.int .u32 A.num)).setCell ⟨v4.heap.size, 3, none⟩ (.int .i64 A.int_)).setCell ⟨v4.heap.size, 4, none⟩ (.string A.key)).setCell ⟨v4.heap.size, 5, none⟩ (.slice p3 na c3)).setCell ⟨v4.heap.size, 6, none⟩ (.int .i64 A.at_)) = UU := ⟨_, rfl⟩
        rw [hU4] at hx4 hb4 ⊢
        have HKu := hidM (HK4.out.below hb4)
        have HBu : Hid (Bx2 w U4 #[.int .i64 P.kind, .string P.name, .int .u32 P.num, .int .i64 P.int_, .string ⟨#[]⟩, .slice pp n pc, .int .i64 P.at_] #[.int .i64 V.kind, .string V.name, .int .u32 V.num, .int .i64 V.int_, .string ⟨#[]⟩, .slice vp m vc, .int .i64 V.at_]) := HB4.out.below hb4
        obtain ⟨O4, hO4⟩ : ∃ O, v4.heap.size = O := ⟨_, rfl⟩
        rw [hO4] at hx4 ⊢
        have HA4 := hidM hx4
        clear q0 q1 q2 q3 q4 q5 q6 r0 r1 r2 r3 r4 r5 r6 hU4 hW4 hb4 hx4 l0 l1 l2 l3 l4 l5 l6 k0 k1 k2 k3 k4 k5 k6 j0 j1 j2 j3 j4 j5 j6 HE1 HCK HK4 HXB4 HBB4 hO4 HKg HKg3 HOc HO3 HB3 HB4 HBc hP3 e1
        obtain ⟨⟨a0, a1, a2, a3, a4, a5, a6⟩, -⟩ := sevenA HBu.out.2.1
        obtain ⟨⟨b0, b1, b2, b3, b4, b5, b6⟩, -⟩ := sevenA HBu.out.2.2
        go_upto_region 10 with (first
          | (go_at_call 15; (with_reducible refine (HNM.out _ HBu.out.b).mono ?_); rintro e v5 ⟨p5, c5, rfl, hk5, hb5⟩; have HK5 := hidM hk5; have HB5 : Hid (Below U4.heap.size U4 v5) := hb5; clear hk5 hb5)
          | (go_at_call 9; (with_reducible refine (HE2.out _ _ _ HK5.out).mono ?_); rintro e v6 ⟨p6, c6, rfl, hk6, hb6⟩; have HK6 := hidM hk6; have HB6 : Hid (Below U4.heap.size U4 v6) := bel HB5.out hb6; clear hk6 hb6; obtain ⟨W7, hW7, hX7, hB7, -⟩ := new_box v6; obtain ⟨⟨q0, q1, q2, q3, q4, q5, q6⟩, r0, r1, r2, r3, r4, r5, r6⟩ := sevenA hX7; have HXB7 := hidM hX7; have HBB7 := hidM hB7; clear hX7 hB7))
        have hx7 := put_sevenA HXB7.out (.int .i64 B.kind) (.string B.name) (.int .u32 B.num) (.int .i64 B.int_) (.string B.key) (.slice p6 nb c6) (.int .i64 B.at_)
        have hb7 := below_seven HBB7.out (.int .i64 B.kind) (.string B.name) (.int .u32 B.num) (.int .i64 B.int_) (.string B.key) (.slice p6 nb c6) (.int .i64 B.at_)
        obtain ⟨U7, hU7⟩ : ∃ UU, (((((((W7.setCell ⟨v6.heap.size, 0, none⟩ (.int .i64 B.kind)).setCell ⟨v6.heap.size, 1, none⟩ (.string B.name)).setCell ⟨v6.heap.size, 2, none⟩ (.int .u32 B.num)).setCell ⟨v6.heap.size, 3, none⟩ (.int .i64 B.int_)).setCell ⟨v6.heap.size, 4, none⟩ (.string B.key)).setCell ⟨v6.heap.size, 5, none⟩ (.slice p6 nb c6)).setCell ⟨v6.heap.size, 6, none⟩ (.int .i64 B.at_)) = UU := ⟨_, rfl⟩
        rw [hU7] at hx7 hb7 ⊢
        have h47 := bel HB6.out hb7
        have HK7 := hidM (HK6.out.below hb7)
        have HK7a := hidM (HKu.out.below h47)
        have HB7 : Hid (Below w.heap.size w U7) := bel HBu.out.b h47
        have hA7 := (h47.block _ (hlt HA4.out)).trans HA4.out
        obtain ⟨O7, hO7⟩ : ∃ O, v6.heap.size = O := ⟨_, rfl⟩
        rw [hO7] at hx7 ⊢
        clear q0 q1 q2 q3 q4 q5 q6 r0 r1 r2 r3 r4 r5 r6 hU7 hW7 hb7 a0 a1 a2 a3 a4 a5 a6 b0 b1 b2 b3 b4 b5 b6 HE2 HNM HK5 HK6 HXB7 HBB7 hO7 h47 HKu HBu HB5 HB6 HA4
        obtain ⟨⟨a0, a1, a2, a3, a4, a5, a6⟩, -⟩ := sevenA hA7
        obtain ⟨⟨b0, b1, b2, b3, b4, b5, b6⟩, -⟩ := sevenA hx7
        clear hx7 hA7
        by_cases z1 : ea = 81
        · have i1 : (ea == 81) = true := by simpa using z1
          clear z1
          go_wp2_with (go_at_call 8; (with_reducible refine (HWK.out _).mono ?_); rintro e v9 ⟨rfl, hb9⟩; have HB9 : Hid (Below w.heap.size w v9) := bel HB7.out hb9; clear hb9)
          refine bodyPost_ret (by simp [results, Try.results5, go_sem]; try rfl) rfl ?_
          exact ⟨rfl, HB9.out⟩
        · have i1 : (ea == 81) = false := by simpa using z1
          by_cases z2 : eb = 81
          · have i2 : (eb == 81) = true := by simpa using z2
            clear z1 z2
            go_wp2_with (go_at_call 8; (with_reducible refine (HWK.out _).mono ?_); rintro e v9 ⟨rfl, hb9⟩; have HB9 : Hid (Below w.heap.size w v9) := bel HB7.out hb9; clear hb9)
            refine bodyPost_ret (by simp [results, Try.results5, go_sem]; try rfl) rfl ?_
            exact ⟨rfl, HB9.out⟩
          · have i2 : (eb == 81) = false := by simpa using z2
            by_cases z3 : ea = 82
            · have i3 : (ea == 82) = true := by simpa using z3
              clear z1 z2 z3
              go_wp2_with (go_at_call 8; (with_reducible refine (HWK.out _).mono ?_); rintro e v9 ⟨rfl, hb9⟩; have HB9 : Hid (Below w.heap.size w v9) := bel HB7.out hb9; clear hb9)
              refine bodyPost_ret (by simp [results, Try.results5, go_sem]; try rfl) rfl ?_
              exact ⟨rfl, HB9.out⟩
            · have i3 : (ea == 82) = false := by simpa using z3
              by_cases z4 : eb = 82
              · have i4 : (eb == 82) = true := by simpa using z4
                clear z1 z2 z3 z4
                go_wp2_with (go_at_call 8; (with_reducible refine (HWK.out _).mono ?_); rintro e v9 ⟨rfl, hb9⟩; have HB9 : Hid (Below w.heap.size w v9) := bel HB7.out hb9; clear hb9)
                refine bodyPost_ret (by simp [results, Try.results5, go_sem]; try rfl) rfl ?_
                exact ⟨rfl, HB9.out⟩
              · have i4 : (eb == 82) = false := by simpa using z4
                have hfin : ea = eb ∧ eqT A B = true := by
                  rcases HR.out with h | h
                  · rcases h with h | h | h | h
                    · exact absurd h z1
                    · exact absurd h z2
                    · exact absurd h z3
                    · exact absurd h z4
                  · exact h
                obtain ⟨hee, hqq⟩ := hfin
                rw [hqq] at HEQ
                have i5 : (ea == eb) = true := by simpa using hee
                clear z1 z2 z3 z4 hee hqq HR
                go_wp2_with (first
                  | (go_at_call 16; (with_reducible refine (HEQ.out _ _ _ _ _ HK7a.out HK7.out).mono ?_); rintro e v8 ⟨rfl, hb8⟩; have HB8 : Hid (Below w.heap.size w v8) := bel HB7.out hb8; clear hb8)
                  | (go_at_call 8; (with_reducible refine (HWK.out _).mono ?_); rintro e v9 ⟨rfl, hb9⟩; have HB9 : Hid (Below w.heap.size w v9) := bel HB8.out hb9; clear hb9))
                refine bodyPost_ret (by simp [results, Try.results5, go_sem]; try rfl) rfl ?_
                exact ⟨rfl, HB9.out⟩
      · have e1 : (P.kind == 1) = false := by simpa using hk1
        clear hk1 HRES
        go_wp2_with (first
          | (go_at_call 13; (with_reducible refine (HCK.out _ _ HKg.out).mono ?_); rintro e v3 ⟨rfl, hb3⟩; have HB3 : Hid (Bx2 w v3 #[.int .i64 P.kind, .string P.name, .int .u32 P.num, .int .i64 P.int_, .string ⟨#[]⟩, .slice pp n pc, .int .i64 P.at_] #[.int .i64 V.kind, .string V.name, .int .u32 V.num, .int .i64 V.int_, .string ⟨#[]⟩, .slice vp m vc, .int .i64 V.at_]) := hP3.out _ hb3; have HKg3 := hidM (HKg.out.below hb3); have HO3 := hidM ((hb3.block _ (hlt HOc.out)).trans HOc.out); obtain ⟨⟨k0, k1, k2, k3, k4, k5, k6⟩, -⟩ := sevenA HO3.out; obtain ⟨⟨j0, j1, j2, j3, j4, j5, j6⟩, -⟩ := sevenA HB3.out.2.1; clear hb3)
          | (go_at_call 8; (with_reducible refine (HWK.out _).mono ?_); rintro e v9 ⟨rfl, hb9⟩; have HB9 : Hid (Below w.heap.size w v9) := bel HB3.out.b hb9; clear hb9))
        refine bodyPost_ret (by simp [results, Try.results5, go_sem]; try rfl) rfl ?_
        exact ⟨rfl, HB9.out⟩
    · have e1 : (ck == 0) = false := by simpa using hk0
      clear hk0 HRES
      go_wp2_with (first
        | (go_at_call 13; (with_reducible refine (HCK.out _ _ HKg.out).mono ?_); rintro e v3 ⟨rfl, hb3⟩; have HB3 : Hid (Bx2 w v3 #[.int .i64 P.kind, .string P.name, .int .u32 P.num, .int .i64 P.int_, .string ⟨#[]⟩, .slice pp n pc, .int .i64 P.at_] #[.int .i64 V.kind, .string V.name, .int .u32 V.num, .int .i64 V.int_, .string ⟨#[]⟩, .slice vp m vc, .int .i64 V.at_]) := hP3.out _ hb3; have HKg3 := hidM (HKg.out.below hb3); have HO3 := hidM ((hb3.block _ (hlt HOc.out)).trans HOc.out); obtain ⟨⟨k0, k1, k2, k3, k4, k5, k6⟩, -⟩ := sevenA HO3.out; obtain ⟨⟨j0, j1, j2, j3, j4, j5, j6⟩, -⟩ := sevenA HB3.out.2.1; clear hb3)
        | (go_at_call 8; (with_reducible refine (HWK.out _).mono ?_); rintro e v9 ⟨rfl, hb9⟩; have HB9 : Hid (Below w.heap.size w v9) := bel HB3.out.b hb9; clear hb9))
      refine bodyPost_ret (by simp [results, Try.results5, go_sem]; try rfl) rfl ?_
      exact ⟨rfl, HB9.out⟩

end Go.Proofs.Ytbmkddmmclndcaa
