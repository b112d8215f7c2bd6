import Derived.Test.YtheedniegjcbgaaLexScan
import Derived.Deep.QuietTactic
import Derived.BigQuiet
/- Lists of tokens as they lie in memory; same. -/
namespace Go.Proofs.Ytheedniegjcbgaa
open Go.RowKit
set_option linter.unusedVariables false
set_option linter.unusedSimpArgs false

theorem mcell_lt {w : World} {a : Addr} {v : Value} (h : w.cell? a = some v) : a.block < w.heap.size := by
  rcases Nat.lt_or_ge a.block w.heap.size with c | c
  · exact c
  · have : w.heap[a.block]? = none := Array.getElem?_eq_none c
    simp [World.cell?, this] at h

theorem bel_dn (w : World) (n : Nat) : Below w.heap.size w (w.drewN n) := ⟨rfl, rfl, rfl, Nat.le_refl _, fun _ _ => rfl⟩

/-- A token's three cells at a place. -/
def At3 (w : World) (b o : Nat) (t : Tok) : Prop :=
  w.cell? ⟨b, o, none⟩ = some (.int .i64 t.kind) ∧ w.cell? ⟨b, o + 1, none⟩ = some (.string ⟨t.text.toArray⟩) ∧ w.cell? ⟨b, o + 2, none⟩ = some (.int .i64 (t.at_ : Int))
theorem At3.below {w w' : World} {b o : Nat} {t : Tok} (h : At3 w b o t) (k : Below w.heap.size w w') : At3 w' b o t :=
  ⟨(k.cell (mcell_lt h.1)).trans h.1, (k.cell (mcell_lt h.2.1)).trans h.2.1, (k.cell (mcell_lt h.2.2)).trans h.2.2⟩

/-- A slice that reads as these tokens. -/
def Rd (w : World) (v : Value) (l : List Tok) : Prop :=
  ∃ p c, v = .slice p l.length c ∧ (l = [] ∨ ∃ b o, p = some ⟨b, o, none⟩ ∧ ∀ i (h : i < l.length), At3 w b (o + i * 3) l[i])
theorem Rd.below {w w' : World} {v : Value} {l : List Tok} (h : Rd w v l) (k : Below w.heap.size w w') : Rd w' v l := by
  obtain ⟨p, c, hv, h⟩ := h
  refine ⟨p, c, hv, ?_⟩
  rcases h with h | ⟨b, o, hp, h⟩
  · exact .inl h
  · exact .inr ⟨b, o, hp, fun i hi => (h i hi).below k⟩

theorem cellsOf_at : ∀ (l : List Tok) (i j : Nat) (hi : i < l.length), j < 3 → (cellsOf l)[i * 3 + j]? = (tokCells l[i])[j]?
  | [], i, j, hi, hj => absurd hi (Nat.not_lt_zero _)
  | t :: l, 0, j, hi, hj => by
    have e : cellsOf (t :: l) = tokCells t ++ cellsOf l := by simp [cellsOf]
    rw [e, Nat.zero_mul, Nat.zero_add, List.getElem?_append_left (by simp [tokCells]; exact hj)]
    rfl
  | t :: l, i + 1, j, hi, hj => by
    have e : cellsOf (t :: l) = tokCells t ++ cellsOf l := by simp [cellsOf]
    rw [e, List.getElem?_append_right (by simp [tokCells]; omega), show (i + 1) * 3 + j - (tokCells t).length = i * 3 + j by simp [tokCells]; omega]
    exact cellsOf_at l i j (by simpa using hi) hj
theorem cellsOf_length (l : List Tok) : (cellsOf l).length = l.length * 3 := by
  induction l with
  | nil => rfl
  | cons t l ih =>
    have e : cellsOf (t :: l) = tokCells t ++ cellsOf l := by simp [cellsOf]
    rw [e, List.length_append, ih]
    simp [tokCells]; omega

theorem Own.rd {w : World} {B : Nat} {v : Value} {l : List Tok} (h : Own w B v l) : Rd w v l := by
  obtain ⟨hl, h⟩ := h
  rcases h with ⟨hv, hn⟩ | ⟨g, cap, cur, hv, hB, hg, hc1, hc2, hsz, htk⟩
  · have : l = [] := List.eq_nil_of_length_eq_zero hn
    subst this
    exact ⟨none, 0, hv, .inl rfl⟩
  · refine ⟨some ⟨g, 0, none⟩, cap, hv, .inr ⟨g, 0, rfl, fun i hi => ?_⟩⟩
    have key : ∀ j, j < 3 → w.cell? ⟨g, 0 + i * 3 + j, none⟩ = (tokCells l[i])[j]? := fun j hj => by
      rw [← cellsOf_at l i j hi hj, ← htk, List.getElem?_take_of_lt (by omega)]
      simp [World.cell?, hg]
    have k0 := key 0 (by decide)
    have k1 := key 1 (by decide)
    have k2 := key 2 (by decide)
    exact ⟨k0, k1, k2⟩

set_option maxRecDepth 100000 in
set_option maxHeartbeats 1000000 in
theorem same_any (u v : Value) (l : List Tok) (hn : l.length ≤ 1048577) (w : World) (hu : Rd w u l) (hv : Rd w v l) :
    Calls Try.prog 11 #[u, v] w fun e w' => e = .returned (.bool true) ∧ Below w.heap.size w w' := by
  obtain ⟨p, c, rfl, hu⟩ := hu
  obtain ⟨q, d, rfl, hv⟩ := hv
  obtain ⟨n, hln⟩ : ∃ n, l.length = n := ⟨_, rfl⟩
  rw [hln] at hn ⊢
  have HN : Hid (l.length = n) := hln
  clear hln
  go_enter Try.func11, Try.ntmps11
  go_wp2
  go_loopw [5] (fun iv wr => Below w.heap.size w wr ∧ ∃ i : Nat, i ≤ n ∧ iv = .int .i64 i) (fun iv _ => n - (intOf iv).toNat)
  case atStart => exact ⟨bel0 w, 0, Nat.zero_le _, rfl⟩
  case round =>
    obtain ⟨hb, i, hi, rfl⟩ := hrel
    by_cases hlt : i < n
    · have hll : i < l.length := by rw [HN.out]; exact hlt
      rcases hu with hu | ⟨b, o, rfl, hu⟩
      · rw [hu] at hll; exact absurd hll (Nat.not_lt_zero _)
      rcases hv with hv | ⟨b', o', rfl, hv⟩
      · rw [hv] at hll; exact absurd hll (Nat.not_lt_zero _)
      obtain ⟨x0, x1, x2⟩ := (hu i hll).below hb
      obtain ⟨y0, y1, y2⟩ := (hv i hll).below hb
      obtain ⟨K, X, A⟩ := l[i]
      have i1 : (0 : Int) ≤ (i : Int) := by omega
      have i2 : (i : Int) < (n : Int) := by omega
      clear hu hv
      go_wp2
      go_quiet (fail)
      go_wp2
      go_roundw
      case rel => exact ⟨bel hb (bel_dn _ _), i + 1, by omega, by go_num⟩
      case measure => simp [intOf]; omega
    · have : i = n := by omega
      subst this
      clear hu hv
      go_wp2
      go_ret
      exact ⟨rfl, hb⟩

theorem Own.rows {w : World} {B : Nat} {v : Value} {l : List Tok} (h : Own w B v l) (h0 : l ≠ []) : ∃ g c, v = .slice (some ⟨g, 0, none⟩) l.length c ∧ B ≤ g ∧ l.length ≤ c ∧ ∀ i (h : i < l.length), At3 w g (i * 3) l[i] := by
  obtain ⟨hl, h⟩ := h
  rcases h with ⟨hv, hn⟩ | ⟨g, cap, cur, hv, hB, hg, hc1, hc2, hsz, htk⟩
  · exact absurd (List.eq_nil_of_length_eq_zero hn) h0
  · refine ⟨g, cap, hv, hB, hc1, fun i hi => ?_⟩
    have key : ∀ j, j < 3 → w.cell? ⟨g, i * 3 + j, none⟩ = (tokCells l[i])[j]? := fun j hj => by
      rw [← cellsOf_at l i j hi hj, ← htk, List.getElem?_take_of_lt (by omega)]
      simp [World.cell?, hg]
    exact ⟨key 0 (by decide), key 1 (by decide), key 2 (by decide)⟩

def src1 : ByteArray := ⟨#[97, 32, 61, 32, 45, 49, 50, 46, 53, 101, 51, 44, 32, 40, 34, 119, 42, 34, 41, 32, 35, 32, 101, 110, 100]⟩
theorem scan1 : scanP (bs src1) = ⟨[⟨1, [97], 0⟩, ⟨8, [61], 2⟩, ⟨9, [45], 4⟩, ⟨2, [49, 50, 46, 53, 101, 51], 5⟩, ⟨7, [44], 11⟩, ⟨5, [40], 13⟩, ⟨4, [119, 42], 14⟩, ⟨6, [41], 18⟩, ⟨0, [], 25⟩], 0, 0⟩ := by kernel_rfl
def src2 : ByteArray := ⟨#[97, 98, 32, 36]⟩
theorem scan2 : scanP (bs src2) = ⟨[], 60, 3⟩ := by kernel_rfl

set_option maxRecDepth 100000 in
set_option maxHeartbeats 1000000 in
theorem works_any (w : World) :
    Calls Try.prog 12 #[] w fun e w' => e = .returned (.bool true) ∧ Below w.heap.size w w' := by
  have S1 := scan_any src1 (by decide) w
  rw [scan1] at S1
  have H1 : Hid (Calls Try.prog 9 #[.string src1] w fun e w' => ∃ v, e = .returned (.tuple #[v, .int .i64 0, .int .i64 0]) ∧ Own w' w.heap.size v [⟨1, [97], 0⟩, ⟨8, [61], 2⟩, ⟨9, [45], 4⟩, ⟨2, [49, 50, 46, 53, 101, 51], 5⟩, ⟨7, [44], 11⟩, ⟨5, [40], 13⟩, ⟨4, [119, 42], 14⟩, ⟨6, [41], 18⟩, ⟨0, [], 25⟩] ∧ Below w.heap.size w w') := S1
  have S2 : ∀ v : World, Calls Try.prog 9 #[.string src2] v fun e w' => ∃ u, e = .returned (.tuple #[u, .int .i64 60, .int .i64 3]) ∧ Own w' v.heap.size u [] ∧ Below v.heap.size v w' := fun v => by
    have := scan_any src2 (by decide) v
    rw [scan2] at this
    exact this
  have H2 : Hid (∀ v : World, Calls Try.prog 9 #[.string src2] v fun e w' => ∃ u, e = .returned (.tuple #[u, .int .i64 60, .int .i64 3]) ∧ Own w' v.heap.size u [] ∧ Below v.heap.size v w') := S2
  clear S1 S2
  unfold src1 src2 at *
  go_enter Try.func12, Try.ntmps12
  go_wp2_with (first
    | ((with_reducible refine H1.out.mono ?_); rintro e w1 ⟨v1, rfl, ho1, hb1⟩; obtain ⟨g, cp, rfl, _, _, hcs⟩ := ho1.rows (by simp); have HC : Hid (_) := hcs; clear hcs ho1)
    | ((with_reducible refine (H2.out _).mono ?_); rintro e w2 ⟨v2, rfl, ho2, hb2⟩; obtain ⟨c0, c1, c2⟩ := (HC.out 0 (by decide)).below hb2; obtain ⟨d0, d1, d2⟩ := (HC.out 3 (by decide)).below hb2; obtain ⟨e0, e1, e2⟩ := (HC.out 6 (by decide)).below hb2; obtain ⟨f0, f1, f2⟩ := (HC.out 8 (by decide)).below hb2; simp only [List.getElem_cons_zero, List.getElem_cons_succ] at c0 c1 c2 d0 d1 d2 e0 e1 e2 f0 f1 f2; clear HC))
  go_ret
  exact ⟨rfl, bel hb1 hb2⟩

end Go.Proofs.Ytheedniegjcbgaa
