import Derived.Test.YtpidcmfmdgppbaaVecRefA
/- The document's Apply: its loops. -/
namespace Go.Proofs.Ytpidcmfmdgppbaa
open Go.RowKit
set_option linter.unusedVariables false

set_option maxRecDepth 100000 in
set_option maxHeartbeats 1000000 in
theorem rapply_arg (op : Int) (q : Option Addr) (m cq : Nat) (hm : m ≤ 1048576) (h : takes op = 0 ∨ takes op ≠ m) (w : World) :
    Calls Try.prog 11 #[.int .i64 op, .slice q m cq] w fun e w' => e = .returned (.tuple #[.slice none 0 0, .int .i64 1]) ∧ w' = w := by
  obtain ⟨t, ht⟩ : ∃ t, t = takes op := ⟨_, rfl⟩
  rw [← ht] at h
  have HT : Hid (t = takes op) := ht
  have ht3 : t ≤ 3 := by rw [ht]; exact takes_le op
  clear ht
  by_cases h0 : t = 0
  · subst h0
    clear h
    go_enter Try.func11, Try.ntmps11
    go_wp2_with (go_at_call 43; refine (rtakes_any op _).mono ?_; rintro e w1 ⟨rfl, hw1⟩; obtain rfl := hw1.symm; rw [← HT.out])
    go_returns
    exact ⟨rfl, rfl⟩
  · have n1 : ¬ ((t : Int) = 0) := by omega
    have n2 : ¬ ((m : Int) = (t : Int)) := by omega
    have n3 : ((m : Int) != (t : Int)) = true := by simp [n2]
    clear h
    go_enter Try.func11, Try.ntmps11
    go_wp2_with (go_at_call 43; refine (rtakes_any op _).mono ?_; rintro e w1 ⟨rfl, hw1⟩; obtain rfl := hw1.symm; rw [← HT.out])
    all_goals first
      | (go_returns; exact ⟨rfl, rfl⟩)
      | (exfalso; have hq : ((t : Int) == 0) = false ∧ ((m : Int) != (t : Int)) = false := by assumption
         rw [n3] at hq; cases hq.2)

def Rel1 (w : World) (l : Nat → Nat) (m : Nat) (nv iv : Value) (wr : World) : Prop := wr = w ∧ ∃ j R : Nat, j ≤ m ∧ iv = .int .i64 j ∧ nv = .int .i64 R ∧ R = rn l j
def Rel2 (w : World) (m : Nat) (iv : Value) (wr : World) : Prop := wr = w ∧ ∃ i : Nat, i ≤ m ∧ iv = .int .i64 i

def Rel3 (w : World) (l : Nat → Nat) (R m : Nat) (iv : Value) (wr : World) : Prop := wr = w ∧ ∃ i : Nat, i ≤ m ∧ iv = .int .i64 i ∧ ∀ t, t < i → good l R t

theorem rel_el (F : Nat → Int) (j k : Nat) : (if k = j then Value.int .i64 (F j) else .int .i64 (if k < j then F k else 0)) = .int .i64 (if k < j + 1 then F k else 0) := by
  by_cases h : k = j
  · subst h; rw [if_pos rfl, if_pos (by omega)]
  · rw [if_neg h]
    by_cases h2 : k < j
    · rw [if_pos h2, if_pos (by omega)]
    · rw [if_neg h2, if_neg (by omega)]

theorem row3 (w : World) (t : TypeId) : (w.alloc (.cells #[.int .i64 0, .int .i64 0, .int .i64 0] t)).rowIs w.heap.size t 3 (fun _ => .int .i64 0) :=
  World.rowIs_alloc w #[.int .i64 0, .int .i64 0, .int .i64 0] t (fun _ => .int .i64 0) (by
    intro i hi
    have : i = 0 ∨ i = 1 ∨ i = 2 := by simp at hi; omega
    rcases this with rfl | rfl | rfl <;> rfl)

set_option maxRecDepth 100000 in
set_option maxHeartbeats 4000000 in
theorem rapply_ok (op : Int) (h0 : takes op ≠ 0) (b o m cq : Nat) (hm : takes op = m) (n : Nat) (P : Nat → Option Addr) (l c : Nat → Nat) (X : Nat → Nat → Int) (hX : ∀ i j, IsP (X i j)) (hl : ∀ i, l i ≤ 1048576) (hs : shp l (m - 1) = some n) (w : World) (hL : Lsts .i64 w (some ⟨b, o, none⟩) m P l c X) :
    Calls Try.prog 11 #[.int .i64 op, .slice (some ⟨b, o, none⟩) m cq] w fun e w' => ∃ q cap, e = .returned (.tuple #[.slice q n cap, .int .i64 0]) ∧ Reads w' q n (fun i => .int .i64 (opf op (elAt l X m i 0) (elAt l X m i 1) (elAt l X m i 2))) ∧ Below w.heap.size w w' := by
  obtain ⟨i0, hi0, hz0, hz1, hz2⟩ := info_parts info_I
  have hn : n ≤ 1048576 := shp_le hl hs
  have hm3 : m ≤ 3 := by rw [← hm]; exact takes_le op
  have ht : ¬ ((m : Int) = 0) := by omega
  have hm1 : 1 ≤ m := by omega
  have HL : Hid (Lsts .i64 w (some ⟨b, o, none⟩) m P l c X ∧ (∀ i, l i ≤ 1048576) ∧ shp l (m - 1) = some n ∧ (∀ i j, IsP (X i j))) := ⟨hL, hl, hs, hX⟩
  have H0 : Hid (takes op ≠ 0 ∧ takes op = m) := ⟨h0, hm⟩
  have h00 := lsts_head hL 0 (by omega)
  rw [Nat.add_zero] at h00
  have d0 : ((m : Int) == 0) = false := by simp; omega
  clear hL hl hs hX h0 hm
  go_enter Try.func11, Try.ntmps11
  go_wp2_with (go_at_call 43; refine (rtakes_any op _).mono ?_; rintro e w1 ⟨rfl, hw1⟩; obtain rfl := hw1.symm; rw [H0.out.2])
  go_loopw [7, 8] (fun nv iv wr => Rel1 w l m nv iv wr) (fun _ iv _ => m - (intOf iv).toNat)
  case atStart => unfold Rel1; exact ⟨rfl, 0, _, Nat.zero_le _, rfl, rfl, rfl⟩
  case round =>
    obtain ⟨rfl, j, R, hj, rfl, rfl, hR⟩ := hrel
    by_cases hlt : j < m
    · have h1 := lsts_head HL.out.1 j hlt
      have i1 : (0 : Int) ≤ (j : Int) := by omega
      have i2 : (j : Int) < (m : Int) := by omega
      obtain ⟨L, hLL⟩ : ∃ L, L = l j := ⟨_, rfl⟩
      have HRN : Hid (rn l (j + 1) = if R = 1 ∨ L = 0 then L else R) := by rw [hR]; subst hLL; rfl
      rw [← hLL] at h1
      clear hR hLL
      by_cases c1 : R = 1
      · have HR1 : Hid (rn l (j + 1) = L) := by rw [HRN.out, if_pos (.inl c1)]; exact rfl
        subst c1
        go_wp2
        go_roundw
        case rel => unfold Rel1; exact ⟨rfl, j + 1, _, by omega, by go_num, rfl, HR1.out.symm⟩
        case measure => simp [intOf]; omega
      · have c2 : ¬ ((R : Int) = 1) := by omega
        by_cases c3 : L = 0
        · have HR1 : Hid (rn l (j + 1) = L) := by rw [HRN.out, if_pos (.inr c3)]; exact rfl
          subst c3
          go_wp2
          go_roundw
          case rel => unfold Rel1; exact ⟨rfl, j + 1, 0, by omega, by go_num, rfl, HR1.out.symm⟩
          case measure => simp [intOf]; omega
        · have HR1 : Hid (rn l (j + 1) = R) := by rw [HRN.out, if_neg (by omega)]; exact rfl
          have c4 : ¬ ((L : Int) = 0) := by omega
          have d1 : ((R : Int) == 1) = false := by simp [c2]
          have d2 : ((L : Int) == 0) = false := by simp; omega
          go_wp2
          go_roundw
          case rel => unfold Rel1; exact ⟨rfl, j + 1, _, by omega, by go_num, rfl, HR1.out.symm⟩
          case measure => simp [intOf]; omega
    · have : j = m := by omega
      subst this
      have hrn : n = R := by rw [hR]; have := rn_shp HL.out.2.2.1; rw [show j - 1 + 1 = j by omega] at this; exact this.symm
      subst hrn
      clear hR
      go_wp2
      go_loopw [9] (fun iv wr' => Rel2 wr j iv wr') (fun iv _ => j - (intOf iv).toNat)
      case atStart => unfold Rel2; exact ⟨rfl, 0, Nat.zero_le _, rfl⟩
      case round =>
        obtain ⟨rfl, i, hi, rfl⟩ := hrel
        by_cases hlt : i < j
        · have h1 := lsts_head HL.out.1 i hlt
          have i1 : (0 : Int) ≤ (i : Int) := by omega
          have i2 : (i : Int) < (j : Int) := by omega
          have hg := shp_each HL.out.2.2.1 i (by omega)
          obtain ⟨L, hLL⟩ : ∃ L, L = l i := ⟨_, rfl⟩
          rw [← hLL] at h1 hg
          clear hLL
          by_cases c1 : L = n
          · subst c1
            clear hg
            go_wp2
            go_roundw
            case rel => unfold Rel2; exact ⟨rfl, i + 1, by omega, by go_num⟩
            case measure => simp [intOf]; omega
          · have c2 : L = 1 := by omega
            have c3 : ¬ ((n : Int) = 0) := by omega
            have c4 : ¬ ((1 : Int) = (n : Int)) := by omega
            have d1 : ((n : Int) == 0) = false := by simp; omega
            have d2 : ((1 : Int) != (n : Int)) = true := by simp [c4]
            subst c2
            clear hg
            go_wp2
            go_roundw
            case rel => unfold Rel2; exact ⟨rfl, i + 1, by omega, by go_num⟩
            case measure => simp [intOf]; omega
        · have : i = j := by omega
          subst this
          obtain ⟨G, HG⟩ : ∃ G : Nat → Int, Hid (G = fun t => opf op (elAt l X i t 0) (elAt l X i t 1) (elAt l X i t 2)) := ⟨_, rfl⟩
          clear h00
          rename World => W0
          go_wp2
          go_loopw [10, 11] (fun ov iv wr => Below W0.heap.size W0 wr ∧ ∃ (k : Nat) (v : Value), v = ov ∧ k ≤ n ∧ iv = .int .i64 k ∧ Hid (wr.ownsRow W0.heap.size 3 1 v k (vals (fun t => .int .i64 (G t)) k))) (fun _ iv _ => n - (intOf iv).toNat)
          case atStart => exact ⟨bel0 _, 0, _, rfl, Nat.zero_le _, rfl, World.ownsRow_nil _ _ _ _⟩
          case round =>
            obtain ⟨hb, k, ov, rfl, hk, rfl, hown⟩ := hrel
            by_cases hlt : k < n
            · rename World => W3
              have i1 : (k : Int) < (n : Int) := by omega
              obtain ⟨E, HE⟩ : ∃ E : Nat → Int, Hid (E = elAt l X i k) := ⟨_, rfl⟩
              have HGk : Hid (opf op (E 0) (E 1) (E 2) = G k ∧ IsP (E 0) ∧ IsP (E 1) ∧ IsP (E 2)) := by
                have e1 := HE.out
                have e2 := HG.out
                have hXX := HL.out.2.2.2
                subst e1
                subst e2
                exact ⟨rfl, isP_elAt hXX _ _ _, isP_elAt hXX _ _ _, isP_elAt hXX _ _ _⟩
              have HT : Hid ((W3.alloc (.cells #[.int .i64 0, .int .i64 0, .int .i64 0] 70)).rowIs W3.heap.size 70 3 (fun _ => .int .i64 0)) := row3 W3 _
              go_wp2
              go_loopw [13] (fun iv wr => Below W3.heap.size W3 wr ∧ ∃ j : Nat, j ≤ i ∧ iv = .int .i64 j ∧ Hid (wr.rowIs W3.heap.size 70 3 (fun t => .int .i64 (if t < j then E t else 0)))) (fun iv _ => i - (intOf iv).toNat)
              case atStart => exact ⟨mbel_alloc W3 _, 0, Nat.zero_le _, rfl, HT.out.congr fun t ht => by simp⟩
              case round =>
                obtain ⟨hb4, j, hj, rfl, hrow⟩ := hrel
                clear HT
                by_cases hlt4 : j < i
                · have hL4 := HL.out.1.below (bel hb hb4)
                  have h1 := lsts_head hL4 j hlt4
                  have HPJ : Hid (Reads wr (P j) (l j) (fun t => .int .i64 (X j t)) ∧ (l j = 1 ∨ k < l j) ∧ X j (if l j = 1 then 0 else k) = E j ∧ l j ≤ 1048576) := ⟨hL4.parts j hlt4, shp_place HL.out.2.2.1 (by omega) hlt, by rw [HE.out]; unfold elAt; rw [if_pos hlt4], HL.out.2.1 j⟩
                  have c1 := hrow.out.cell (i := j) (by omega)
                  have f1 := hrow.out.frozen j
                  have i2 : (0 : Int) ≤ (j : Int) := by omega
                  have i3 : (j : Int) < (i : Int) := by omega
                  have i4 : (j : Int) < 3 := by omega
                  have j3 : j < 3 := by omega
                  have HR : Hid (∀ x, (wr.setCell ⟨W3.heap.size, j, none⟩ x).rowIs W3.heap.size 70 3 (fun t => if t = j then x else .int .i64 (if t < j then E t else 0))) := fun x => hrow.out.set j x
                  clear hL4
                  go_wp2_with (go_at_call 44; refine (rat_any _ _ _ k (X j) HPJ.out.2.2.2 (by omega) HPJ.out.2.1 wr HPJ.out.1).mono ?_; rintro e w5 ⟨rfl, hw5⟩; obtain rfl := hw5.symm; rw [HPJ.out.2.2.1])
                  go_roundw
                  case rel => exact ⟨hb4.setCell (Nat.le_refl _) _, j + 1, by omega, by go_num, (HR.out _).congr fun t ht => rel_el E j t⟩
                  case measure => simp [intOf]; omega
                · have : j = i := by omega
                  subst this
                  have e0 : ∀ t, t < 3 → (if t < j then E t else 0) = E t := by
                    intro t ht
                    by_cases q : t < j
                    · rw [if_pos q]
                    · rw [if_neg q, HE.out]; unfold elAt; rw [if_neg q]
                  have r1 := hrow.out.congr (g := fun t => .int .i64 (E t)) (fun t ht => by rw [e0 t ht])
                  have c0 := r1.cell (i := 0) (by omega)
                  have c1 := r1.cell (i := 1) (by omega)
                  have c2 := r1.cell (i := 2) (by omega)
                  clear r1 e0 hrow
                  go_wp2_with (first
                    | (go_at_call 45; refine (rdo_any op H0.out.1 (E 0) (E 1) (E 2) HGk.out.2.1 HGk.out.2.2.1 HGk.out.2.2.2 wr).mono ?_; rintro e w6 ⟨rfl, hb6⟩; rw [HGk.out.1]; have hown6 : Hid (w6.ownsRow W0.heap.size 3 1 ov k (vals (fun t => .int .i64 (G t)) k)) := owns_below hown.out (bel hb4 hb6); have hob : Hid (∀ j, ov.ownBlock = some j → W0.heap.size ≤ j ∧ j < W3.heap.size) := hown.out.lt; have HB6 : Below W0.heap.size W0 w6 := bel (bel hb hb4) hb6; have sz := HB6.size)
                    | (at_builtin; refine wpList_append_own _ rfl _ _ 28 rfl W0.heap.size 3 i0 _ 1 8 Try.underlying28 hi0 hz0 hz1 hz2 rfl (by decide) ov k (vals (fun t => .int .i64 (G t)) k) rfl (hown6.out.alloc _) ⟨w6.heap.size, 0, none⟩ 1 1 [.int .i64 (G k)] rfl rfl (World.news_of_block (cs := #[.int .i64 (G k)]) (t := 3) (fr := (0, 0)) (heap_alloc_new w6 _)) (by simp [Value.oneCell']) (by unfold maxLen; omega) (by omega) (by simp; omega) ?_; intro v' w7 hown7 hgrow hnil; have HB7 : Below W0.heap.size W0 w7 := Below.grown (HB6.alloc sz _) hgrow (by simp; omega) (fun j e => (hob.out j e).1); have HO : Hid (w7.ownsRow W0.heap.size 3 1 v' (k + 1) (vals (fun t => .int .i64 (G t)) k ++ [.int .i64 (G k)])) := hown7; clear hown7 hgrow hnil))
                  go_roundw
                  case rel => exact ⟨HB7, k + 1, _, rfl, by omega, by go_num, by rw [vals_succ]; exact HO⟩
                  case measure => simp [intOf]; omega
            · have : k = n := by omega
              subst this
              obtain ⟨q, cap, rfl, hR, hg, -⟩ := own_form2 hown.out
              have HR : Hid (Reads wr q k (fun t => .int .i64 (G t))) := hR
              clear hR hg hown
              go_wp2
              go_returns
              have e2 := HG.out
              subst e2
              first | exact ⟨_, _, rfl, HR.out, hb⟩ | exact ⟨_, ⟨_, rfl⟩, HR.out, hb⟩

set_option maxRecDepth 100000 in
set_option maxHeartbeats 4000000 in
theorem rapply_shape (op : Int) (h0 : takes op ≠ 0) (b o m cq : Nat) (hm : takes op = m) (P : Nat → Option Addr) (l c : Nat → Nat) (X : Nat → Nat → Int) (hl : ∀ i, l i ≤ 1048576) (hs : shp l (m - 1) = none) (w : World) (hL : Lsts .i64 w (some ⟨b, o, none⟩) m P l c X) :
    Calls Try.prog 11 #[.int .i64 op, .slice (some ⟨b, o, none⟩) m cq] w fun e w' => e = .returned (.tuple #[.slice none 0 0, .int .i64 50]) ∧ w' = w := by
  have hm3 : m ≤ 3 := by rw [← hm]; exact takes_le op
  have ht : ¬ ((m : Int) = 0) := by omega
  have hm1 : 1 ≤ m := by omega
  have HL : Hid (Lsts .i64 w (some ⟨b, o, none⟩) m P l c X ∧ (∀ i, l i ≤ 1048576) ∧ shp l (m - 1) = none) := ⟨hL, hl, hs⟩
  have H0 : Hid (takes op ≠ 0 ∧ takes op = m) := ⟨h0, hm⟩
  have h00 := lsts_head hL 0 (by omega)
  rw [Nat.add_zero] at h00
  have d0 : ((m : Int) == 0) = false := by simp; omega
  clear hL hl hs h0 hm
  go_enter Try.func11, Try.ntmps11
  go_wp2_with (go_at_call 43; refine (rtakes_any op _).mono ?_; rintro e w1 ⟨rfl, hw1⟩; obtain rfl := hw1.symm; rw [H0.out.2])
  go_loopw [7, 8] (fun nv iv wr => Rel1 w l m nv iv wr) (fun _ iv _ => m - (intOf iv).toNat)
  case atStart => unfold Rel1; exact ⟨rfl, 0, _, Nat.zero_le _, rfl, rfl, rfl⟩
  case round =>
    obtain ⟨rfl, j, R, hj, rfl, rfl, hR⟩ := hrel
    by_cases hlt : j < m
    · have h1 := lsts_head HL.out.1 j hlt
      have i1 : (0 : Int) ≤ (j : Int) := by omega
      have i2 : (j : Int) < (m : Int) := by omega
      obtain ⟨L, hLL⟩ : ∃ L, L = l j := ⟨_, rfl⟩
      have HRN : Hid (rn l (j + 1) = if R = 1 ∨ L = 0 then L else R) := by rw [hR]; subst hLL; rfl
      rw [← hLL] at h1
      clear hR hLL
      by_cases c1 : R = 1
      · have HR1 : Hid (rn l (j + 1) = L) := by rw [HRN.out, if_pos (.inl c1)]; exact rfl
        subst c1
        go_wp2
        go_roundw
        case rel => unfold Rel1; exact ⟨rfl, j + 1, _, by omega, by go_num, rfl, HR1.out.symm⟩
        case measure => simp [intOf]; omega
      · have c2 : ¬ ((R : Int) = 1) := by omega
        by_cases c3 : L = 0
        · have HR1 : Hid (rn l (j + 1) = L) := by rw [HRN.out, if_pos (.inr c3)]; exact rfl
          subst c3
          go_wp2
          go_roundw
          case rel => unfold Rel1; exact ⟨rfl, j + 1, 0, by omega, by go_num, rfl, HR1.out.symm⟩
          case measure => simp [intOf]; omega
        · have HR1 : Hid (rn l (j + 1) = R) := by rw [HRN.out, if_neg (by omega)]; exact rfl
          have c4 : ¬ ((L : Int) = 0) := by omega
          have d1 : ((R : Int) == 1) = false := by simp [c2]
          have d2 : ((L : Int) == 0) = false := by simp; omega
          go_wp2
          go_roundw
          case rel => unfold Rel1; exact ⟨rfl, j + 1, _, by omega, by go_num, rfl, HR1.out.symm⟩
          case measure => simp [intOf]; omega
    · have : j = m := by omega
      subst this
      have HR : Hid (R = rn l j) := hR
      have hRl : R ≤ 1048576 := by rw [hR]; exact rn_le HL.out.2.1 j
      clear hR
      go_wp2
      go_loopw [9] (fun iv wr' => Rel3 wr l R j iv wr') (fun iv _ => j - (intOf iv).toNat)
      case atStart => unfold Rel3; exact ⟨rfl, 0, Nat.zero_le _, rfl, fun t ht => by omega⟩
      case round =>
        obtain ⟨rfl, i, hi, rfl, hgood⟩ := hrel
        by_cases hlt : i < j
        · have h1 := lsts_head HL.out.1 i hlt
          have i1 : (0 : Int) ≤ (i : Int) := by omega
          have i2 : (i : Int) < (j : Int) := by omega
          have hl1 := HL.out.2.1 i
          obtain ⟨L, hLL⟩ : ∃ L, L = l i := ⟨_, rfl⟩
          have HGS : Hid ((L = R ∨ (L = 1 ∧ R ≠ 0)) → ∀ t, t < i + 1 → good l R t) := by
            intro hh t ht
            by_cases e : t = i
            · subst e; subst hLL; exact hh
            · exact hgood t (by omega)
          rw [← hLL] at h1 hl1
          clear hLL hgood
          by_cases c1 : L = R
          · subst c1
            go_wp2
            go_roundw
            case rel => unfold Rel3; exact ⟨rfl, i + 1, by omega, by go_num, HGS.out (.inl rfl)⟩
            case measure => simp [intOf]; omega
          · have c2 : ¬ ((L : Int) = (R : Int)) := by omega
            have d2 : ((L : Int) != (R : Int)) = true := by simp [c2]
            by_cases c3 : R = 0
            · subst c3
              go_wp2
              go_returns
              exact ⟨rfl, rfl⟩
            · have d3 : ((R : Int) == 0) = false := by simp; omega
              have c4 : ¬ ((R : Int) = 0) := by omega
              by_cases c5 : L = 1
              · subst c5
                go_wp2
                go_roundw
                case rel => unfold Rel3; exact ⟨rfl, i + 1, by omega, by go_num, HGS.out (.inr ⟨rfl, c3⟩)⟩
                case measure => simp [intOf]; omega
              · have c6 : ¬ ((L : Int) = 1) := by omega
                have d6 : ((L : Int) != 1) = true := by simp [c6]
                go_wp2
                go_returns
                exact ⟨rfl, rfl⟩
        · have : i = j := by omega
          subst this
          exfalso
          obtain ⟨s, e, -⟩ := shp_good (i - 1) (fun t ht => hgood t (by omega))
          rw [HL.out.2.2] at e
          cases e

end Go.Proofs.Ytpidcmfmdgppbaa
