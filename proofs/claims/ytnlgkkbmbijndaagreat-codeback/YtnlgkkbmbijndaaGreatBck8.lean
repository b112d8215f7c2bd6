import Derived.Test.YtnlgkkbmbijndaaGreatBck7
/- Package ir: the end of a block. -/
namespace Go.Proofs.YtnlgkkbmbijndaaGreat
open Go.RowKit
set_option linter.unusedVariables false
set_option linter.unusedSimpArgs false

structure LW (E G C n gi : Nat) (vs vo : Value) (w : World) (S : List Nat) (O : List Bk) (X : Nat → Bool) (H : Nat) (L : Bool) (A : Nat) (v : World) : Prop where
  bel : Below E w v
  st : WX E G C n gi vs vo v S O X
  b0 : v.cell? ⟨H, 0, none⟩ = some (.bool L)
  b2 : v.cell? ⟨H, 2, none⟩ = some (.int .i64 (A : Int))
  hH : H ≠ G
  hI : H ≠ gi
  off : ∀ k, k < w.heap.size → k ≠ G → k ≠ gi → v.heap[k]? = w.heap[k]?
section
variable {E G C n gi : Nat} {vs vo : Value} {w v v' : World} {S : List Nat} {O : List Bk} {X : Nat → Bool} {H : Nat} {L : Bool} {A : Nat}
theorem LW.below (h : LW E G C n gi vs vo w S O X H L A v) (k : Below v.heap.size v v') : LW E G C n gi vs vo w S O X H L A v' :=
  ⟨h.bel.trans (k.mono h.st.lt), h.st.below k, kc k h.b0, kc k h.b2, h.hH, h.hI, fun j hj h1 h2 => (k.block j (Nat.lt_of_lt_of_le hj h.bel.size)).trans (h.off j hj h1 h2)⟩
theorem LW.put (h : LW E G C n gi vs vo w S O X H L A v) (x : Nat) (b : Bool) : LW E G C n gi vs vo w S O (fun j => if j = x then b else X j) H L A (v.setCell ⟨gi, x, none⟩ (.bool b)) := by
  have f : ∀ j, (v.setCell ⟨gi, x, none⟩ (.bool b)).cell? ⟨H, j, none⟩ = v.cell? ⟨H, j, none⟩ := fun j => World.cell?_of_block (Below.heap_setCell _ _ _ _ h.hI)
  exact ⟨h.bel.setCell h.st.hgi _, h.st.put x b, (f 0).trans h.b0, (f 2).trans h.b2, h.hH, h.hI, fun j hj h1 h2 => (Below.heap_setCell _ _ _ _ h2).trans (h.off j hj h1 h2)⟩
theorem LW.of {X' : Nat → Bool} (h : LW E G C n gi vs vo w S O X H L A v) (e : ∀ j, j < n → X j = X' j) : LW E G C n gi vs vo w S O X' H L A v := ⟨h.bel, h.st.of e, h.b0, h.b2, h.hH, h.hI, h.off⟩
end
theorem own_cap {w : World} {B : Nat} {t : TypeId} {k : Nat} {p : Option Addr} {n c : Nat} {xs : List Value} (h : w.ownsRow B t k (.slice p n c) n xs) : n ≤ c := by
  rcases h.2 with ⟨hv, h0⟩ | ⟨g, cap, cur, hv, hB, hg, hc1, hc2, hsz, htk⟩
  · omega
  · simp only [Value.slice.injEq] at hv; omega
/-- The set of a row from a place on. -/
theorem set_from {w : World} {B : Nat} {t : TypeId} {p : Option Addr} {c : Nat} {S : List Nat} (h : w.ownsRow B t 1 (.slice p S.length c) S.length (setC S)) {A j : Nat} (hj : A + j < S.length) :
    ∃ g, p = some ⟨g, 0, none⟩ ∧ sfromG p c A 1 = some ⟨g, A, none⟩ ∧ w.cell? ⟨g, A + j, none⟩ = some (.int .i64 (S[A + j] : Int)) := by
  obtain ⟨g, cap, hv, _, _, hc1, _, hcl⟩ := own_open h (by omega)
  simp only [Value.slice.injEq] at hv
  obtain ⟨rfl, -, rfl⟩ := hv
  refine ⟨g, rfl, ?_, hcl _ _ (by simp [setC, List.getElem?_eq_getElem hj])⟩
  unfold sfromG
  rw [if_neg (by omega)]
  by_cases h0 : A = 0
  · subst h0; simp [Addr.add]
  · simp [Addr.add, h0]
theorem ownBlock_len (p : Option Addr) (a b c : Nat) : (Value.slice p a c).ownBlock = (Value.slice p b c).ownBlock := by cases p <;> rfl
def offX (S : List Nat) (A q : Nat) (j : Nat) : Bool := decide (j ∈ S) && !decide (j ∈ (S.drop A).take q)
theorem offX_zero (S : List Nat) (A j : Nat) : offX S A 0 j = decide (j ∈ S) := by simp [offX]
theorem offX_succ {S : List Nat} {A q : Nat} (h : A + q < S.length) (j : Nat) : (if j = S[A + q] then false else offX S A q j) = offX S A (q + 1) j := by
  have e : (S.drop A).take (q + 1) = (S.drop A).take q ++ [S[A + q]] := by
    rw [List.take_succ_eq_append_getElem (by rw [List.length_drop]; omega)]
    simp
  unfold offX
  rw [e]
  by_cases hj : j = S[A + q]
  · rw [if_pos hj, hj]; simp
  · rw [if_neg hj]; simp [hj]
theorem offX_all {S : List Nat} {A : Nat} (hd : S.Nodup) (j : Nat) : offX S A (S.length - A) j = decide (j ∈ S.take A) := by
  have e : (S.drop A).take (S.length - A) = S.drop A := List.take_of_length_le (by simp)
  unfold offX
  rw [e]
  have hs : S = S.take A ++ S.drop A := (List.take_append_drop A S).symm
  have hd' := hd
  rw [hs, List.nodup_append] at hd'
  by_cases h1 : j ∈ S.take A
  · have h2 : j ∉ S.drop A := fun h2 => hd'.2.2 j h1 j h2 rfl
    have h3 : j ∈ S := List.mem_of_mem_take h1
    simp [h1, h2, h3]
  · by_cases h2 : j ∈ S.drop A
    · simp [h1, h2]
    · have h3 : j ∉ S := fun h3 => by rw [hs] at h3; exact (List.mem_append.1 h3).elim h1 h2
      simp [h1, h3]

set_option maxRecDepth 100000 in
set_option maxHeartbeats 4000000 in
theorem leave_any (E G C n gi : Nat) (vs vo : Value) (s : Wk) (w : World) (h : WS E G C n gi vs vo w s) (ok : OkS n s) (hn : n ≤ 16384) (hop : s.opens ≠ []) :
    Calls Tryz.prog 107 #[.pointer (some ⟨G, 0, none⟩)] w fun e w' => e = .returned (.tuple #[]) ∧ Below E w w' ∧ (∀ k, k < w.heap.size → k ≠ G → k ≠ gi → w'.heap[k]? = w.heap[k]?) ∧ ∃ vs' vo', WS E G C n gi vs' vo' w' (leaveP s) := by
  obtain ⟨S, O⟩ := s
  cases O with
  | nil => exact absurd rfl hop
  | cons bk r =>
    clear hop
    obtain ⟨L, P, A⟩ := bk
    have hlen := ok.len
    obtain ⟨hnd, hlt, ⟨hA, hAr⟩, hne⟩ := ok
    simp only at hnd hlt hA hAr hne hlen
    have hx := h.x
    have hG := h.g.lt
    have hgi := h.i.lt
    have hE := h.lt
    obtain ⟨g, cap, rfl, hE2, hg, hc1, hc2, hcl⟩ := own_open h.opn (by simp)
    obtain ⟨pS, cS, rfl⟩ := own_len h.set
    have hcs := own_cap h.set
    simp only at hcs
    have hl : r.reverse.length = r.length := List.length_reverse
    simp only [List.reverse_cons] at hcl
    have x0 := hcl (r.length * 3) (.bool L) (by have := cellsB_last r.reverse ⟨L, P, A⟩ 0 (u := .bool L) rfl; rwa [hl] at this)
    have x1 := hcl (r.length * 3 + 1) (.int .i64 P) (by have := cellsB_last r.reverse ⟨L, P, A⟩ 1 (u := .int .i64 P) rfl; rwa [hl] at this)
    have x2 := hcl (r.length * 3 + 2) (.int .i64 A) (by have := cellsB_last r.reverse ⟨L, P, A⟩ 2 (u := .int .i64 A) rfl; rwa [hl] at this)
    have c3 := h.c3
    have HX : Hid (WX E G C n gi (.slice pS S.length cS) (.slice (some ⟨g, 0, none⟩) (r.length + 1) cap) w S (⟨L, P, A⟩ :: r) (fun j => decide (j ∈ S))) := hx
    simp only [List.length_cons] at c3 hne hc1
    -- behind the cut of the open blocks
    have HL1 : Hid (LW E G C n gi (.slice pS S.length cS) (.slice (some ⟨g, 0, none⟩) r.length cap) w S r (offX S A 0) w.heap.size L A ((w.setCell ⟨G, 3, none⟩ (.slice (some ⟨g, 0, none⟩) r.length cap)).alloc (.cells #[.bool L, .int .i64 P, .int .i64 (A : Int)] 173))) := by
      have ho := own_take (m := r.length) hx.opn (by simp)
      have he : (cellsB ((⟨L, P, A⟩ :: r).reverse)).take (r.length * 3) = cellsB r.reverse := by
        rw [List.reverse_cons, cellsB_snoc, List.take_append_of_le_length (by rw [cellsB_len, hl]; exact Nat.le_refl _), List.take_of_length_le (by rw [cellsB_len, hl]; exact Nat.le_refl _)]
      rw [he] at ho
      have hs : (w.setCell ⟨G, 3, none⟩ (.slice (some ⟨g, 0, none⟩) r.length cap)).heap.size = w.heap.size := by simp
      have q := hx.opens ho hx.n4 hx.n5 hx.n6
      obtain ⟨V, hV⟩ : ∃ V, w.setCell ⟨G, 3, none⟩ (.slice (some ⟨g, 0, none⟩) r.length cap) = V := ⟨_, rfl⟩
      have hbV : Below E w V := by rw [← hV]; exact (Below.refl E w).setCell hx.hG _
      have hoV : ∀ k, k ≠ G → V.heap[k]? = w.heap[k]? := fun k hk => by rw [← hV]; exact Below.heap_setCell _ _ _ _ hk
      rw [hV] at hs q ⊢
      exact ⟨hbV.alloc (by omega) _, (q.below (bel_alloc V _)).of fun j _ => (offX_zero S A j).symm, by rw [← hs]; simp [go_sem], by rw [← hs]; simp [go_sem], by omega, by omega, fun k hk h1 _ => (Below.heap_alloc _ _ _ (by omega)).trans (hoV k h1)⟩
    have HOW : Hid (∀ v, WX E G C n gi (.slice pS S.length cS) (.slice (some ⟨g, 0, none⟩) r.length cap) v S r (offX S A (S.length - A)) → WS E G C n gi (.slice pS A cS) (.slice (some ⟨g, 0, none⟩) r.length cap) (v.setCell ⟨G, 2, none⟩ (.slice pS A cS)) ⟨S.take A, r⟩) := fun v hv => by
      have ho := own_take (m := A) hv.set hA
      rw [Nat.mul_one, setC_take] at ho
      have hlA : (S.take A).length = A := by rw [List.length_take]; omega
      have ho' : v.ownsRow E 3 1 (.slice pS A cS) (S.take A).length (setC (S.take A)) := by rw [hlA]; exact ho
      have q := hv.sets (vs' := .slice pS A cS) (S' := S.take A) ho' (by rw [ownBlock_len pS A S.length cS]; exact hv.n2) (by rw [ownBlock_len pS A S.length cS]; exact hv.n3) (by rw [ownBlock_len pS A S.length cS]; exact hv.n6)
      exact WX.st (s := ⟨S.take A, r⟩) q fun j _ => offX_all hnd j
    have HFR : Hid (∀ v : World, v.ownsRow E 3 1 (.slice pS S.length cS) S.length (setC S) → ∀ j, A + j < S.length → ∃ (gs x : Nat), sfromG pS cS A 1 = some ⟨gs, A, none⟩ ∧ v.cell? ⟨gs, A + j, none⟩ = some (.int .i64 (x : Int)) ∧ x < n ∧ ∀ i, (if i = x then false else offX S A j i) = offX S A (j + 1) i) := fun v hv j hj => by
      obtain ⟨gs, _, h2, h3⟩ := set_from hv hj
      exact ⟨gs, S[A + j], h2, h3, hlt _ (List.getElem_mem hj), fun i => offX_succ hj i⟩
    have HLT : Hid (WX E G C n gi (.slice pS S.length cS) (.slice (some ⟨g, 0, none⟩) r.length cap) w S r (offX S A 0) → True) := fun _ => trivial
    have HL3 : Hid (∀ v, WX E G C n gi (.slice pS S.length cS) (.slice (some ⟨g, 0, none⟩) r.length cap) v S r (offX S A 0) → WS E G C n gi (.slice pS S.length cS) (.slice (some ⟨g, 0, none⟩) r.length cap) v ⟨S, r⟩) := fun v hv => WX.st (s := ⟨S, r⟩) hv fun j _ => offX_zero S A j
    have s1 := fun w => slice_toG und_B size_B (some ⟨g, 0, none⟩) (r.length + 1) cap r.length (by omega) w
    have s2 := fun w => slice_fromG und_I size_I pS S.length cS A hA w
    have s3 := fun w => slice_toG und_I size_I pS S.length cS A (by omega) w
    obtain ⟨m, hm⟩ : ∃ m, r.length = m := ⟨_, rfl⟩
    obtain ⟨K, hK⟩ : ∃ K, S.length = K := ⟨_, rfl⟩
    obtain ⟨pF, hpF⟩ : ∃ p, sfromG pS cS A 1 = p := ⟨_, rfl⟩
    simp only [leaveP]
    rw [hm] at x0 x1 x2 c3 hne hc1 s1 HX HL1 HOW HL3
    rw [hK] at s2 s3 HL1 HOW HL3 hA hlen hcs HX
    simp only [hpF] at s2
    simp only [hpF, hK] at HFR
    have HD : Hid (K - A ≤ 16384) := by show _ ≤ _; omega
    obtain ⟨N, hN⟩ : ∃ N, m + 1 = N := ⟨_, rfl⟩
    rw [hN] at c3 hne hc1 s1 HX
    obtain ⟨D, hD⟩ : ∃ D, K - A = D := ⟨_, rfl⟩
    rw [hD] at s2 HOW HD
    have HDD : Hid (K - A = D) := hD
    have HKK : Hid (S.length = K) := hK
    have hw : IntKind.i64.wrap ((N : Int) - 1) = (m : Int) := by rw [IntKind.wrap_i64]; omega
    have i1 : (0 : Int) ≤ (m : Int) := by omega
    have i2 : (m : Int) < (N : Int) := by omega
    have ng : g ≠ w.heap.size := by omega
    have nG : G ≠ w.heap.size := by omega
    have fz := h.g.frozen 3
    have HB0 : Hid (D ≤ 16384) := HD
    have hDb : D ≤ 16384 := HD.out
    clear hcl hl hm hK hpF hN hD h hx hAr hlt hnd HLT HD
    go_enter Tryz.func107, Tryz.ntmps107
    go_upto_region 2 with fail
    go_cut [3] (fun bv wx => bv = .pointer (some ⟨w.heap.size, 0, none⟩) ∧ LW E G C n gi (.slice pS K cS) (.slice (some ⟨g, 0, none⟩) m cap) w S r (offX S A 0) w.heap.size L A wx)
    case first =>
      go_wp2
      go_meet
      exact ⟨rfl, HL1.out⟩
    case rest =>
      obtain ⟨rfl, lw⟩ := hcut
      have HLW : Hid (LW E G C n gi (.slice pS K cS) (.slice (some ⟨g, 0, none⟩) m cap) w S r (offX S A 0) w.heap.size L A wc) := lw
      have b0 := lw.b0
      have b2 := lw.b2
      have d2 := lw.st.c2
      clear lw HL1 HX x0 x1 x2 c3 fz
      cases L
      · go_wp2
        refine wp_region_held_drew (S := (fun v => v.cell? ⟨G, 2, none⟩ = some (.slice pS K cS) ∧ v.cell? ⟨w.heap.size, 2, none⟩ = some (.int .i64 (A : Int)))) (by kernel_rfl) ?_ (fun hHeld => ?_)
        · ((try dsimp only); go_keep)
        refine wpAnyH_take (i := 0) (v := ?_) (by simp only [List.getElem?_toArray, List.getElem?_cons_succ, List.getElem?_cons_zero]; rfl) (by kernel_rfl) (by kernel_rfl) (by kernel_rfl) (by exact fun _ _ _ h => h) (Or.inl ⟨by rfl, ?_⟩) (by assumption) ?_
        rotate_left 1
        · (intro wS hSw; (try dsimp only at hSw); go_simp; try (with_reducible rfl))
        try simp only [Act.put, List.setIfInBounds_toArray, List.set_cons_zero, List.set_cons_succ]
        refine wpAnyH_take (i := 1) (v := ?_) (by simp only [List.getElem?_toArray, List.getElem?_cons_succ, List.getElem?_cons_zero]; rfl) (by kernel_rfl) (by kernel_rfl) (by kernel_rfl) (by exact fun _ _ _ h => h) (Or.inl ⟨by rfl, ?_⟩) (by assumption) ?_
        rotate_left 1
        · (intro wS hSw; (try dsimp only at hSw); go_simp; try (with_reducible rfl))
        try simp only [Act.put, List.setIfInBounds_toArray, List.set_cons_zero, List.set_cons_succ]
        refine wpAnyH_take (i := 2) (v := ?_) (by simp only [List.getElem?_toArray, List.getElem?_cons_succ, List.getElem?_cons_zero]; rfl) (by kernel_rfl) (by kernel_rfl) (by kernel_rfl) (by exact fun _ _ _ h => h) (Or.inl ⟨by rfl, ?_⟩) (by assumption) ?_
        rotate_left 1
        · (intro wS hSw; (try dsimp only at hSw); go_simp; try (with_reducible rfl))
        try simp only [Act.put, List.setIfInBounds_toArray, List.set_cons_zero, List.set_cons_succ]
        refine wpAnyH_take (i := 3) (v := ?_) (by simp only [List.getElem?_toArray, List.getElem?_cons_succ, List.getElem?_cons_zero]; rfl) (by kernel_rfl) (by kernel_rfl) (by kernel_rfl) (by exact fun _ _ _ h => h) (Or.inl ⟨by rfl, ?_⟩) (by assumption) ?_
        rotate_left 1
        · (intro wS hSw; (try dsimp only at hSw); go_simp; try (with_reducible rfl))
        try simp only [Act.put, List.setIfInBounds_toArray, List.set_cons_zero, List.set_cons_succ]
        refine wpAnyH_take (i := 4) (v := ?_) (by simp only [List.getElem?_toArray, List.getElem?_cons_succ, List.getElem?_cons_zero]; rfl) (by kernel_rfl) (by kernel_rfl) (by kernel_rfl) (by exact fun _ _ _ h => h) (Or.inl ⟨by rfl, ?_⟩) (by assumption) ?_
        rotate_left 1
        · (intro wS hSw; (try dsimp only at hSw); go_simp; try (with_reducible rfl))
        try simp only [Act.put, List.setIfInBounds_toArray, List.set_cons_zero, List.set_cons_succ]
        refine wpAnyH_take (i := 5) (v := ?_) (by simp only [List.getElem?_toArray, List.getElem?_cons_succ, List.getElem?_cons_zero]; rfl) (by kernel_rfl) (by kernel_rfl) (by kernel_rfl) (by exact fun _ _ _ h => h) (Or.inl ⟨by rfl, ?_⟩) (by assumption) ?_
        rotate_left 1
        · (intro wS hSw; (try dsimp only at hSw); go_simp; try (with_reducible rfl))
        try simp only [Act.put, List.setIfInBounds_toArray, List.set_cons_zero, List.set_cons_succ]
        refine wpAnyH_take (i := 6) (v := ?_) (by simp only [List.getElem?_toArray, List.getElem?_cons_succ, List.getElem?_cons_zero]; rfl) (by kernel_rfl) (by kernel_rfl) (by kernel_rfl) (by exact fun _ _ _ h => h) (Or.inl ⟨by rfl, ?_⟩) (by assumption) ?_
        rotate_left 1
        · (intro wS hSw; (try dsimp only at hSw); go_simp; try (with_reducible rfl))
        try simp only [Act.put, List.setIfInBounds_toArray, List.set_cons_zero, List.set_cons_succ]
        refine wpAnyH_take (i := 7) (v := ?_) (by simp only [List.getElem?_toArray, List.getElem?_cons_succ, List.getElem?_cons_zero]; rfl) (by kernel_rfl) (by kernel_rfl) (by kernel_rfl) (by exact fun _ _ _ h => h) (Or.inl ⟨by rfl, ?_⟩) (by assumption) ?_
        rotate_left 1
        · (intro wS hSw; (try dsimp only at hSw); go_simp; try (with_reducible rfl))
        try simp only [Act.put, List.setIfInBounds_toArray, List.set_cons_zero, List.set_cons_succ]
        refine wpAnyH_take (i := 8) (v := ?_) (by simp only [List.getElem?_toArray, List.getElem?_cons_succ, List.getElem?_cons_zero]; rfl) (by kernel_rfl) (by kernel_rfl) (by kernel_rfl) (by exact fun _ _ _ h => h) (Or.inl ⟨by rfl, ?_⟩) (by assumption) ?_
        rotate_left 1
        · (intro wS hSw; (try dsimp only at hSw); go_simp; try (with_reducible rfl))
        try simp only [Act.put, List.setIfInBounds_toArray, List.set_cons_zero, List.set_cons_succ]
        refine wpAnyH_done (by kernel_rfl) ?_ _
        go_wp2
        go_loopw [38] (fun iv wr => ∃ j : Nat, j ≤ D ∧ iv = .int .i64 j ∧ LW E G C n gi (.slice pS K cS) (.slice (some ⟨g, 0, none⟩) m cap) w S r (offX S A j) w.heap.size false A wr) (fun iv _ => D - (intOf iv).toNat)
        case atStart => exact ⟨0, Nat.zero_le _, rfl, HLW.out.below (bel_d _)⟩
        case round =>
          clear HLW b0 b2 d2
          obtain ⟨j, hj, rfl, lw⟩ := hrel
          have HLW : Hid (LW E G C n gi (.slice pS K cS) (.slice (some ⟨g, 0, none⟩) m cap) w S r (offX S A j) w.heap.size false A wr) := lw
          by_cases hlt : j < D
          · obtain ⟨gs, x, rfl, xj, hxn, hsv⟩ := HFR.out wr (by have := lw.st.set; rw [HKK.out] at this; exact this) j (by have := HDD.out; omega)
            have HSV : Hid (∀ i, (if i = x then false else offX S A j i) = offX S A (j + 1) i) := hsv
            have d1 := lw.st.c1
            have y1 := lw.st.i.cell hxn
            have y2 := lw.st.i.frozen x
            have i3 : (0 : Int) ≤ (j : Int) := by omega
            have i4 : (j : Int) < (D : Int) := by omega
            have i5 : (0 : Int) ≤ (x : Int) := by omega
            have i6 : (x : Int) < (n : Int) := by omega
            clear lw hsv
            go_wp2
            go_roundw
            case rel => exact ⟨j + 1, by omega, by go_num, (HLW.out.put x false).of fun i _ => HSV.out i⟩
            case measure => simp [intOf]; omega
          · have : j = D := by omega
            subst this
            have d2 := lw.st.c2
            have b2 := lw.b2
            have d3 := lw.st.g.frozen 2
            have hGr : G ≠ w.heap.size := by omega
            clear lw
            go_wp2
            refine wp_region_held_drew (S := (fun v => v.cell? ⟨w.heap.size, 2, none⟩ = some (.int .i64 (A : Int)))) (by kernel_rfl) ?_ (fun hHeld => ?_)
            · ((try dsimp only); go_keep)
            refine wpAnyH_take (i := 0) (v := ?_) (by simp only [List.getElem?_toArray, List.getElem?_cons_succ, List.getElem?_cons_zero]; rfl) (by kernel_rfl) (by kernel_rfl) (by kernel_rfl) (by exact fun _ _ _ h => h) (Or.inl ⟨by rfl, ?_⟩) (by assumption) ?_
            rotate_left 1
            · (intro wS hSw; (try dsimp only at hSw); go_simp; try (with_reducible rfl))
            try simp only [Act.put, List.setIfInBounds_toArray, List.set_cons_zero, List.set_cons_succ]
            refine wpAnyH_take (i := 1) (v := ?_) (by simp only [List.getElem?_toArray, List.getElem?_cons_succ, List.getElem?_cons_zero]; rfl) (by kernel_rfl) (by kernel_rfl) (by kernel_rfl) (by exact fun _ _ _ h => h) (Or.inl ⟨by rfl, ?_⟩) (by assumption) ?_
            rotate_left 1
            · (intro wS hSw; (try dsimp only at hSw); go_simp; try (with_reducible rfl))
            try simp only [Act.put, List.setIfInBounds_toArray, List.set_cons_zero, List.set_cons_succ]
            refine wpAnyH_take (i := 2) (v := ?_) (by simp only [List.getElem?_toArray, List.getElem?_cons_succ, List.getElem?_cons_zero]; rfl) (by kernel_rfl) (by kernel_rfl) (by kernel_rfl) (by exact fun _ _ _ h => h) (Or.inl ⟨by rfl, ?_⟩) (by assumption) ?_
            rotate_left 1
            · (intro wS hSw; (try dsimp only at hSw); go_simp; try (with_reducible rfl))
            try simp only [Act.put, List.setIfInBounds_toArray, List.set_cons_zero, List.set_cons_succ]
            refine wpAnyH_take (i := 3) (v := ?_) (by simp only [List.getElem?_toArray, List.getElem?_cons_succ, List.getElem?_cons_zero]; rfl) (by kernel_rfl) (by kernel_rfl) (by kernel_rfl) (by exact fun _ _ _ h => h) (Or.inl ⟨by rfl, ?_⟩) (by assumption) ?_
            rotate_left 1
            · (intro wS hSw; (try dsimp only at hSw); go_simp; try (with_reducible rfl))
            try simp only [Act.put, List.setIfInBounds_toArray, List.set_cons_zero, List.set_cons_succ]
            refine wpAnyH_take (i := 5) (v := ?_) (by simp only [List.getElem?_toArray, List.getElem?_cons_succ, List.getElem?_cons_zero]; rfl) (by kernel_rfl) (by kernel_rfl) (by kernel_rfl) (by exact fun _ _ _ h => h) (Or.inl ⟨by rfl, ?_⟩) (by assumption) ?_
            rotate_left 1
            · (intro wS hSw; (try dsimp only at hSw); go_simp; try (with_reducible rfl))
            try simp only [Act.put, List.setIfInBounds_toArray, List.set_cons_zero, List.set_cons_succ]
            refine wpAnyH_take (i := 6) (v := ?_) (by simp only [List.getElem?_toArray, List.getElem?_cons_succ, List.getElem?_cons_zero]; rfl) (by kernel_rfl) (by kernel_rfl) (by kernel_rfl) (by exact fun _ _ _ h => h) (Or.inl ⟨by rfl, ?_⟩) (by assumption) ?_
            rotate_left 1
            · (intro wS hSw; (try dsimp only at hSw); go_simp; try (with_reducible rfl))
            try simp only [Act.put, List.setIfInBounds_toArray, List.set_cons_zero, List.set_cons_succ]
            clear hHeld
            refine wpAnyH_ready (rs := [4]) (by kernel_rfl) (by simp) ?_
            refine AllReadyH.cons (i := 4) (by simp only [List.getElem?_toArray, List.getElem?_cons_succ, List.getElem?_cons_zero]; rfl) (fun K hK => ?_) AllReadyH.nil
            go_simp
            refine hK.out _ _ ?_ (fun hHeld => ?_)
            · ((try dsimp only); go_keep)
            clear hK K
            try simp only [Act.put, List.setIfInBounds_toArray, List.set_cons_zero, List.set_cons_succ]
            refine wpAnyH_take (i := 7) (v := ?_) (by simp only [List.getElem?_toArray, List.getElem?_cons_succ, List.getElem?_cons_zero]; rfl) (by kernel_rfl) (by kernel_rfl) (by kernel_rfl) (by exact fun _ _ _ h => h) (Or.inl ⟨by rfl, ?_⟩) (by assumption) ?_
            rotate_left 1
            · (intro wS hSw; (try dsimp only at hSw); go_simp; try (with_reducible rfl))
            try simp only [Act.put, List.setIfInBounds_toArray, List.set_cons_zero, List.set_cons_succ]
            refine wpAnyH_take (i := 8) (v := ?_) (by simp only [List.getElem?_toArray, List.getElem?_cons_succ, List.getElem?_cons_zero]; rfl) (by kernel_rfl) (by kernel_rfl) (by kernel_rfl) (by exact fun _ _ _ h => h) (Or.inl ⟨by rfl, ?_⟩) (by assumption) ?_
            rotate_left 1
            · (intro wS hSw; (try dsimp only at hSw); go_simp; try (with_reducible rfl))
            try simp only [Act.put, List.setIfInBounds_toArray, List.set_cons_zero, List.set_cons_succ]
            refine wpAnyH_take (i := 9) (v := ?_) (by simp only [List.getElem?_toArray, List.getElem?_cons_succ, List.getElem?_cons_zero]; rfl) (by kernel_rfl) (by kernel_rfl) (by kernel_rfl) (by exact fun _ _ _ h => h) (Or.inl ⟨by rfl, ?_⟩) (by assumption) ?_
            rotate_left 1
            · (intro wS hSw; (try dsimp only at hSw); go_simp; try (with_reducible rfl))
            try simp only [Act.put, List.setIfInBounds_toArray, List.set_cons_zero, List.set_cons_succ]
            clear hHeld
            refine wpAnyH_ready (rs := [10]) (by kernel_rfl) (by simp) ?_
            refine AllReadyH.cons (i := 10) (by simp only [List.getElem?_toArray, List.getElem?_cons_succ, List.getElem?_cons_zero]; rfl) (fun K hK => ?_) AllReadyH.nil
            go_simp
            refine hK.out _ _ ?_ (fun hHeld => ?_)
            · ((try dsimp only); go_keep)
            clear hK K
            try simp only [Act.put, List.setIfInBounds_toArray, List.set_cons_zero, List.set_cons_succ]
            refine wpAnyH_done (by kernel_rfl) ?_ _
            go_wp2
            first | go_end0 | (simp only [Exit.inBlock, Exit.then]; refine bodyPost_ret (results_none rfl _ _ _) rfl ?_) | refine bodyPost_ret (results_none rfl _ _ _) rfl ?_
            exact ⟨rfl, (HLW.out.bel.drew).setCell HLW.out.st.hG _, fun k hk h1 h2 => (Below.heap_setCell _ _ _ _ h1).trans (HLW.out.off k hk h1 h2), _, _, HOW.out _ (HLW.out.below (bel_d _)).st⟩
      · go_wp2
        first | go_end0 | (simp only [Exit.inBlock, Exit.then]; refine bodyPost_ret (results_none rfl _ _ _) rfl ?_) | refine bodyPost_ret (results_none rfl _ _ _) rfl ?_
        exact ⟨rfl, HLW.out.bel, HLW.out.off, _, _, HL3.out _ HLW.out.st⟩

end Go.Proofs.YtnlgkkbmbijndaaGreat
/- Package ir: what an instruction does to the walk. -/
namespace Go.Proofs.YtnlgkkbmbijndaaGreat
open Go.RowKit
set_option linter.unusedVariables false
set_option linter.unusedSimpArgs false

theorem step_app {P : Program} {w w' : World} {ops : Array Oper} {o : Oper} {a : Act} {K : Act → World → Prop} {Q : Exit → Act → World → Prop} {E : Prop} (hgd : o.guard = none) (s x : Operand) (t : TypeId)
    (ho : o.op = .call { callee := .builtin .append, args := #[s, x], argTypes := #[t, t] }) (v v2 v' : Value) (hs : a.eval s = v) (hx : a.eval x = v2) (hr : (Builtin.append_ #[t, t] o.type #[v, v2]).run P w = .ok v' w') (h : K (a.put o.dst v') w') :
    if Region.wanted o (yielded ops a.tmps) = true then Oper.wp P o a w K Q else E := by
  have hw : Region.wanted o (yielded ops a.tmps) = true := by simp [Region.wanted, hgd]
  rw [if_pos hw]
  unfold Oper.wp execOp
  simp only [ho, resolve, invoke, builtin, Sem.run_bind, Sem.run_pure, Result.andThen_ok, List.map_toArray, List.map_cons, List.map_nil, hs, hx, hr]
  exact h

section
variable {E G C n gi : Nat} {vs vo : Value} {V : World} {S : List Nat} {O : List Bk} {X : Nat → Bool}
/-- One more register in the list. -/
theorem app_set (h : WX E G C n gi vs vo V S O X) (hS : S.length ≤ 16384) (x : Nat) :
    ∃ g cap w3, (Builtin.append_ #[96, 96] 96 #[vs, .slice (some ⟨V.heap.size, 0, none⟩) 1 1]).run Tryz.prog (V.drew.alloc (.cells #[.int .i64 (x : Int)] 3)) = .ok (.slice (some ⟨g, 0, none⟩) (S.length + 1) cap) w3 ∧ Below E V w3 ∧ w3.cell? ⟨G, 2, none⟩ = some vs ∧ w3.frozen? ⟨G, 2, none⟩ = false ∧
      WX E G C n gi (.slice (some ⟨g, 0, none⟩) (S.length + 1) cap) vo (w3.setCell ⟨G, 2, none⟩ (.slice (some ⟨g, 0, none⟩) (S.length + 1) cap)) (S ++ [x]) O X := by
  obtain ⟨i0, hi0, hz0, hz1, hz2⟩ := info_parts info_Int
  have hb0 : Below V.heap.size V (V.drew.alloc (.cells #[.int .i64 (x : Int)] 3)) := bel (bel_d V) (bel_alloc _ _)
  have h0 := h.below hb0
  have hlt0 := h.lt
  obtain ⟨g, cap, w3, hr, hown, hgrow, hat, hlt⟩ := run_append_lies (P := Tryz.prog) (V.drew.alloc (.cells #[.int .i64 (x : Int)] 3)) 96 96 E 3 i0 _ 1 8 Tryz.underlying96 hi0 hz0 hz1 hz2 rfl (by decide) vs S.length (setC S) h0.set ⟨V.heap.size, 0, none⟩ 1 1 [.int .i64 (x : Int)] rfl
    (World.news_of_block (cs := #[.int .i64 (x : Int)]) (t := 3) (fr := (0, 0)) (heap_alloc_new V.drew _)) (by simp [Value.oneCell']) (by decide) (by unfold maxLen; omega) (by omega) (by simp; omega) _ rfl
  obtain ⟨k1, k2, -, k4⟩ := h0.grown hgrow (.inr rfl)
  have hG := h.g.lt
  have hgi := h.i.lt
  have hsz : (V.drew.alloc (.cells #[.int .i64 (x : Int)] 3)).heap.size = V.heap.size + 1 := by simp
  have m2 : g ≠ G := by
    rcases hat with hat | hat
    · exact fun e => h.n2 (e ▸ hat)
    · omega
  have m3 : g ≠ gi := by
    rcases hat with hat | hat
    · exact fun e => h.n3 (e ▸ hat)
    · omega
  have m6 : ∀ b, vo.ownBlock = some b → g ≠ b := fun b hb e => by
    rcases hat with hat | hat
    · exact h.n6 g hat (e ▸ hb)
    · have := (h.opn.lt b hb).2; omega
  have hV3 : WX E G C n gi vs vo w3 S O X → True := fun _ => trivial
  have hn : (S ++ [x]).length = S.length + 1 := by simp
  have o4 := k4 rfl
  refine ⟨g, cap, w3, hr, ?_, k1.cell (i := 2) (by decide), k1.frozen 2, ?_⟩
  · exact (hb0.mono hlt0).grown hgrow (by omega) (fun q e => (h0.set.lt q e).1)
  · have nb : ∀ b, b ≠ G → (w3.setCell ⟨G, 2, none⟩ (.slice (some ⟨g, 0, none⟩) (S.length + 1) cap)).heap[b]? = w3.heap[b]? := fun b hb => Below.heap_setCell _ _ _ _ hb
    refine ⟨(k1.set 2 _).congr fun j hj => ?_, k2.of_block (nb _ h.n1), ?_, own_keep o4 fun b hb => nb b fun e => h.n4 (e ▸ hb), h.hG, h.hgi, h.n1, fun e => m2 (Option.some.inj e), fun e => m3 (Option.some.inj e), h.n4, h.n5, fun b e hb => m6 b hb (Option.some.inj e)⟩
    · unfold wkF
      obtain rfl | rfl | rfl | rfl : j = 0 ∨ j = 1 ∨ j = 2 ∨ j = 3 := by omega
      all_goals rfl
    · rw [hn, setC_snoc]
      exact own_keep hown fun b hb => nb b fun e => m2 (by rw [← e]; exact Option.some.inj hb)
/-- One more block is open. -/
theorem app_open (h : WX E G C n gi vs vo V S O X) (hO : O.length ≤ 64) (L : Bool) (P : Int) (A : Nat) :
    ∃ g cap w3, (Builtin.append_ #[97, 97] 97 #[vo, .slice (some ⟨V.heap.size, 0, none⟩) 1 1]).run Tryz.prog (V.drew.alloc (.cells #[.bool L, .int .i64 P, .int .i64 (A : Int)] 173)) = .ok (.slice (some ⟨g, 0, none⟩) (O.length + 1) cap) w3 ∧ Below E V w3 ∧ w3.cell? ⟨G, 3, none⟩ = some vo ∧ w3.frozen? ⟨G, 3, none⟩ = false ∧ w3.cell? ⟨G, 2, none⟩ = some vs ∧
      (∀ a, a.block < V.heap.size → vo.ownBlock ≠ some a.block → w3.cell? a = V.cell? a) ∧
      WX E G C n gi vs (.slice (some ⟨g, 0, none⟩) (O.length + 1) cap) (w3.setCell ⟨G, 3, none⟩ (.slice (some ⟨g, 0, none⟩) (O.length + 1) cap)) S (⟨L, P, A⟩ :: O) X := by
  obtain ⟨i0, hi0, hz0, hz1, hz2⟩ := info_parts info_Block
  have hb0 : Below V.heap.size V (V.drew.alloc (.cells #[.bool L, .int .i64 P, .int .i64 (A : Int)] 173)) := bel (bel_d V) (bel_alloc _ _)
  have h0 := h.below hb0
  have hlt0 := h.lt
  obtain ⟨g, cap, w3, hr, hown, hgrow, hat, hlt⟩ := run_append_lies (P := Tryz.prog) (V.drew.alloc (.cells #[.bool L, .int .i64 P, .int .i64 (A : Int)] 173)) 97 97 E 173 i0 _ 3 24 Tryz.underlying97 hi0 hz0 hz1 hz2 rfl (by decide) vo O.length (cellsB O.reverse) h0.opn ⟨V.heap.size, 0, none⟩ 1 1 (bkC ⟨L, P, A⟩) rfl
    (World.news_of_block (cs := #[.bool L, .int .i64 P, .int .i64 (A : Int)]) (t := 173) (fr := (0, 0)) (heap_alloc_new V.drew _)) (by simp [bkC, Value.oneCell']) (by decide) (by unfold maxLen; omega) (by omega) (by simp; omega) _ rfl
  obtain ⟨k1, k2, k3, -⟩ := h0.grown hgrow (.inl rfl)
  have hG := h.g.lt
  have hgi := h.i.lt
  have hsz : (V.drew.alloc (.cells #[.bool L, .int .i64 P, .int .i64 (A : Int)] 173)).heap.size = V.heap.size + 1 := by simp
  have m2 : g ≠ G := by
    rcases hat with hat | hat
    · exact fun e => h.n4 (e ▸ hat)
    · omega
  have m3 : g ≠ gi := by
    rcases hat with hat | hat
    · exact fun e => h.n5 (e ▸ hat)
    · omega
  have m6 : ∀ b, vs.ownBlock = some b → g ≠ b := fun b hb e => by
    rcases hat with hat | hat
    · exact h.n6 b hb (e ▸ hat)
    · have := (h.set.lt b hb).2; omega
  have o3 := k3 rfl
  refine ⟨g, cap, w3, hr, ?_, k1.cell (i := 3) (by decide), k1.frozen 3, k1.cell (i := 2) (by decide), fun a ha hb => ?_, ?_⟩
  · exact (hb0.mono hlt0).grown hgrow (by omega) (fun q e => (h0.opn.lt q e).1)
  · rw [World.cell?_of_block (hgrow.block a.block (by omega) (Ne.symm hb)), hb0.cell ha]
  · have nb : ∀ b, b ≠ G → (w3.setCell ⟨G, 3, none⟩ (.slice (some ⟨g, 0, none⟩) (O.length + 1) cap)).heap[b]? = w3.heap[b]? := fun b hb => Below.heap_setCell _ _ _ _ hb
    refine ⟨(k1.set 3 _).congr fun j hj => ?_, k2.of_block (nb _ h.n1), own_keep o3 fun b hb => nb b fun e => h.n2 (e ▸ hb), ?_, h.hG, h.hgi, h.n1, h.n2, h.n3, fun e => m2 (Option.some.inj e), fun e => m3 (Option.some.inj e), fun b hb e => m6 b hb (Option.some.inj e)⟩
    · unfold wkF
      obtain rfl | rfl | rfl | rfl : j = 0 ∨ j = 1 ∨ j = 2 ∨ j = 3 := by omega
      all_goals rfl
    · rw [List.reverse_cons, cellsB_snoc]
      exact own_keep hown fun b hb => nb b fun e => m2 (by rw [← e]; exact Option.some.inj hb)
end

end Go.Proofs.YtnlgkkbmbijndaaGreat
