import Derived.Test.YtpidcmfmdgppbaaVecWalks2
import Derived.Test.YtpidcmfmdgppbaaVecRef
/- Lists of lists: lists, twins; Norm. -/
namespace Go.Proofs.Ytpidcmfmdgppbaa
open Go.RowKit
set_option linter.unusedVariables false

/-- A list of lists of numbers, and where they lie. -/
structure Lsts (k : IntKind) (w : World) (q : Option Addr) (m : Nat) (P : Nat → Option Addr) (l c : Nat → Nat) (X : Nat → Nat → Int) : Prop where
  heads : Reads w q m (fun i => .slice (P i) (l i) (c i))
  parts : ∀ i, i < m → Reads w (P i) (l i) (fun j => .int k (X i j))
theorem Lsts.below {k : IntKind} {w w' : World} {q : Option Addr} {m : Nat} {P : Nat → Option Addr} {l c : Nat → Nat} {X : Nat → Nat → Int} (h : Lsts k w q m P l c X) (b : Below w.heap.size w w') : Lsts k w' q m P l c X :=
  ⟨h.heads.below b, fun i hi => (h.parts i hi).below b⟩

/-- A row apart from the block that v owns. -/
def ReadsA (v : Value) (w : World) (p : Option Addr) (n : Nat) (X : Nat → Value) : Prop := n = 0 ∨ ∃ b o, p = some ⟨b, o, none⟩ ∧ v.ownBlock ≠ some b ∧ ∀ i, i < n → w.cell? ⟨b, o + i, none⟩ = some (X i)
theorem ReadsA.out {v : Value} {w : World} {p : Option Addr} {n : Nat} {X : Nat → Value} (h : ReadsA v w p n X) : Reads w p n X := by
  rcases h with h | ⟨b, o, e, -, h⟩
  · exact .inl h
  · exact .inr ⟨b, o, e, h⟩
theorem ReadsA.below {v : Value} {w w' : World} {p : Option Addr} {n : Nat} {X : Nat → Value} (h : ReadsA v w p n X) (k : Below w.heap.size w w') : ReadsA v w' p n X := by
  rcases h with h | ⟨b, o, e, hn, h⟩
  · exact .inl h
  · exact .inr ⟨b, o, e, hn, fun i hi => (k.cell (mcell_lt (h i hi))).trans (h i hi)⟩
theorem ReadsA.grown {v v' : Value} {w w' : World} {p : Option Addr} {n : Nat} {X : Nat → Value} (h : ReadsA v w p n X) (hg : w.grownBy w' v.ownBlock) (ha : v'.ownBlock = v.ownBlock ∨ v'.ownBlock = some w.heap.size) : ReadsA v' w' p n X := by
  rcases Nat.eq_zero_or_pos n with c | c
  · exact .inl c
  rcases h with h | ⟨b, o, e, hn, h⟩
  · exact .inl h
  · have lt : b < w.heap.size := mcell_lt (h 0 c)
    refine .inr ⟨b, o, e, ?_, fun i hi => by rw [hg.cell_far _ lt (Ne.symm hn)]; exact h i hi⟩
    rcases ha with ha | ha
    · rw [ha]; exact hn
    · rw [ha]; intro q; cases q; omega
theorem ReadsA.new {v : Value} {w : World} {p : Option Addr} {n N : Nat} {X : Nat → Value} (h : Reads w p n X) (hp : ∀ b o s, p = some ⟨b, o, s⟩ → N ≤ b) (hv : ∀ j, v.ownBlock = some j → j < N) : ReadsA v w p n X := by
  rcases h with h | ⟨b, o, e, h⟩
  · exact .inl h
  · exact .inr ⟨b, o, e, fun q => by have := hv b q; have := hp b o none e; omega, h⟩

theorem info_LI : (Try.prog.info? 28).map (fun i => (i.zero, i.size, i.bytes)) = some (some (.slice none 0 0), 1, 24) := by kernel_rfl

theorem info_LF : (Try.prog.info? 24).map (fun i => (i.zero, i.size, i.bytes)) = some (some (.slice none 0 0), 1, 24) := by kernel_rfl

def put1 {α : Type} (P : Nat → α) (k : Nat) (x : α) : Nat → α := fun i => if i = k then x else P i
theorem put1_at {α : Type} (P : Nat → α) (k : Nat) (x : α) : put1 P k x k = x := by unfold put1; rw [if_pos rfl]
theorem put1_lt {α : Type} (P : Nat → α) {k i : Nat} (x : α) (h : i < k) : put1 P k x i = P i := by unfold put1; rw [if_neg (by omega)]

theorem owns_below {w w' : World} {base : Nat} {e : TypeId} {v : Value} {n : Nat} {xs : List Value} (h : w.ownsRow base e 1 v n xs) (k : Below w.heap.size w w') : w'.ownsRow base e 1 v n xs := by
  refine h.kept (row := none) ⟨k.os, k.tape, k.output, k.size, fun j hj _ => k.block j hj⟩ ?_
  cases v.ownBlock <;> simp

set_option maxRecDepth 100000 in
set_option maxHeartbeats 2000000 in
theorem lists_any (q : Option Addr) (m cq : Nat) (P : Nat → Option Addr) (l c : Nat → Nat) (X : Nat → Nat → Int) (hX : ∀ i j, IsP (X i j)) (hm : m ≤ 1048576) (hl : ∀ i, l i ≤ 1048576) (h0 : ∀ i, P i = none → l i = 0 ∧ c i = 0) (w : World) (hL : Lsts .u32 w q m P l c X) :
    Calls Try.prog 12 #[.slice q m cq] w fun e w' => ∃ q' c' P' C', e = .returned (.slice q' m c') ∧ m ≤ c' ∧ Lsts .i64 w' q' m P' l C' X ∧ Below w.heap.size w w' := by
  obtain ⟨i0, hi0, hz0, hz1, hz2⟩ := info_parts info_LI
  have HL : Hid (Lsts .u32 w q m P l c X ∧ (∀ i j, IsP (X i j)) ∧ (∀ i, l i ≤ 1048576) ∧ ∀ i, P i = none → l i = 0 ∧ c i = 0) := ⟨hL, hX, hl, h0⟩
  have hh := hL.heads
  clear hL hX hl h0
  go_enter Try.func12, Try.ntmps12
  go_wp2
  go_loopw [3, 4] (fun ov iv wr => Below w.heap.size w wr ∧ ∃ (k : Nat) (v : Value), v = ov ∧ k ≤ m ∧ iv = .int .i64 k ∧ Hid (∃ (P' : Nat → Option Addr) (C' : Nat → Nat), wr.ownsRow w.heap.size 28 1 v k (vals (fun i => .slice (P' i) (l i) (C' i)) k) ∧ ∀ i, i < k → ReadsA v wr (P' i) (l i) (fun j => .int .i64 (X i j)))) (fun _ iv _ => m - (intOf iv).toNat)
  case atStart => exact ⟨bel0 w, 0, _, rfl, Nat.zero_le _, rfl, fun _ => none, fun _ => 0, World.ownsRow_nil _ _ _ _, fun i hi => by omega⟩
  case round =>
    obtain ⟨hb, k, ov, rfl, hk, rfl, hall⟩ := hrel
    by_cases hlt : k < m
    · rcases hh with hh | ⟨b, o, rfl, hh⟩
      · omega
      have h1 : wr.cell? ⟨b, o + k, none⟩ = some (.slice (P k) (l k) (c k)) := (hb.cell (mcell_lt (hh k hlt))).trans (hh k hlt)
      have i1 : (0 : Int) ≤ (k : Int) := by omega
      have i2 : (k : Int) < (m : Int) := by omega
      obtain ⟨P', C', hown, hread⟩ := hall.out
      have sz := hb.size
      have HOW : Hid (wr.ownsRow w.heap.size 28 1 ov k (vals (fun i => .slice (P' i) (l i) (C' i)) k) ∧ ∀ i, i < k → ReadsA ov wr (P' i) (l i) (fun j => .int .i64 (X i j))) := ⟨hown, hread⟩
      have HPK : Hid (Reads wr (P k) (l k) (fun j => .int .u32 (X k j))) := (HL.out.1.parts k hlt).below hb
      clear hh hall hown hread
      go_wp2_with (first
        | (go_at_call 18; refine (ints_any _ _ _ (X k) (HL.out.2.1 k) (HL.out.2.2.1 k) _ HPK.out).mono ?_; rintro e w1 ⟨q1, c1, rfl, hR1, hnew, hb1⟩; have HR1 : Hid (Reads w1 q1 (l k) (fun j => .int .i64 (X k j)) ∧ (∀ b o s, q1 = some ⟨b, o, s⟩ → wr.heap.size ≤ b)) := ⟨hR1, hnew⟩; have hown1 : Hid (w1.ownsRow w.heap.size 28 1 ov k (vals (fun i => .slice (P' i) (l i) (C' i)) k)) := owns_below HOW.out.1 hb1; have sz1 := hb1.size; clear hR1 hnew)
        | (at_builtin; refine wpList_append_own_at _ rfl _ _ 31 rfl w.heap.size 28 i0 _ 1 24 Try.underlying31 hi0 hz0 hz1 hz2 rfl (by decide) ov k (vals (fun i => .slice (P' i) (l i) (C' i)) k) rfl (hown1.out.alloc _) ⟨w1.heap.size, 0, none⟩ 1 1 [.slice q1 (l k) c1] rfl rfl (World.news_of_block (cs := #[.slice q1 (l k) c1]) (t := 28) (fr := (0, 0)) (heap_alloc_new w1 _)) (by simp [Value.oneCell']) (by unfold maxLen; omega) (by omega) (by simp; omega) ?_; intro v' w2 hown2 hgrow hnil hat; have HO2 : Hid (w2.ownsRow w.heap.size 28 1 v' (k + 1) (vals (fun i => .slice (P' i) (l i) (C' i)) k ++ [.slice q1 (l k) c1]) ∧ (w1.alloc (.cells #[.slice q1 (l k) c1] 28)).grownBy w2 ov.ownBlock ∧ (v'.ownBlock = ov.ownBlock ∨ v'.ownBlock = some (w1.alloc (.cells #[.slice q1 (l k) c1] 28)).heap.size)) := ⟨hown2, hgrow, hat⟩; clear hown2 hgrow hnil hat))
      go_roundw
      case rel =>
        obtain ⟨ho2, hgrow, hat⟩ := HO2.out
        have hob := HOW.out.1.lt
        refine ⟨Below.grown ((bel hb hb1).alloc (by omega) _) hgrow (by simp; omega) (fun j e => (hob j e).1), k + 1, _, rfl, by omega, by go_num, put1 P' k q1, put1 C' k c1, ?_, ?_⟩
        · rw [vals_succ, put1_at, put1_at, vals_congr (Y := fun i => .slice (P' i) (l i) (C' i)) (fun i hi => by rw [put1_lt _ _ hi, put1_lt _ _ hi])]
          exact ho2
        · intro i hi
          by_cases e : i = k
          · subst e
            rw [put1_at]
            exact ((ReadsA.new (v := ov) HR1.out.1 HR1.out.2 (fun j e => (hob j e).2)).below (mbel_alloc w1 _)).grown hgrow hat
          · rw [put1_lt _ _ (by omega)]
            exact (((HOW.out.2 i (by omega)).below hb1).below (mbel_alloc w1 _)).grown hgrow hat
      case measure => simp [intOf]; omega
    · have : k = m := by omega
      subst this
      obtain ⟨P', C', hown, hread⟩ := hall.out
      obtain ⟨q', cap, rfl, hR, hg, -, hmc⟩ := own_form2 hown
      have HR : Hid (Lsts .i64 wr q' k P' l C' X) := ⟨hR, fun i hi => (hread i hi).out⟩
      clear hh hR hg hown hall hread
      go_wp2
      go_ret
      exact ⟨_, _, _, _, rfl, hmc, HR.out, hb⟩

set_option maxRecDepth 100000 in
set_option maxHeartbeats 2000000 in
theorem twins_any (q : Option Addr) (m cq : Nat) (P : Nat → Option Addr) (l c : Nat → Nat) (X : Nat → Nat → Int) (hX : ∀ i j, IsP (X i j)) (hm : m ≤ 1048576) (hl : ∀ i, l i ≤ 1048576) (h0 : ∀ i, P i = none → l i = 0 ∧ c i = 0) (w : World) (hL : Lsts .u32 w q m P l c X) :
    Calls Try.prog 9 #[.slice q m cq] w fun e w' => ∃ q' c' P' C', e = .returned (.slice q' m c') ∧ m ≤ c' ∧ Lsts .u32 w' q' m P' l C' X ∧ Below w.heap.size w w' := by
  obtain ⟨i0, hi0, hz0, hz1, hz2⟩ := info_parts info_LF
  have HL : Hid (Lsts .u32 w q m P l c X ∧ (∀ i j, IsP (X i j)) ∧ (∀ i, l i ≤ 1048576) ∧ ∀ i, P i = none → l i = 0 ∧ c i = 0) := ⟨hL, hX, hl, h0⟩
  have hh := hL.heads
  clear hL hX hl h0
  go_enter Try.func9, Try.ntmps9
  go_wp2
  go_loopw [3, 4] (fun ov iv wr => Below w.heap.size w wr ∧ ∃ (k : Nat) (v : Value), v = ov ∧ k ≤ m ∧ iv = .int .i64 k ∧ Hid (∃ (P' : Nat → Option Addr) (C' : Nat → Nat), wr.ownsRow w.heap.size 24 1 v k (vals (fun i => .slice (P' i) (l i) (C' i)) k) ∧ ∀ i, i < k → ReadsA v wr (P' i) (l i) (fun j => .int .u32 (X i j)))) (fun _ iv _ => m - (intOf iv).toNat)
  case atStart => exact ⟨bel0 w, 0, _, rfl, Nat.zero_le _, rfl, fun _ => none, fun _ => 0, World.ownsRow_nil _ _ _ _, fun i hi => by omega⟩
  case round =>
    obtain ⟨hb, k, ov, rfl, hk, rfl, hall⟩ := hrel
    by_cases hlt : k < m
    · rcases hh with hh | ⟨b, o, rfl, hh⟩
      · omega
      have h1 : wr.cell? ⟨b, o + k, none⟩ = some (.slice (P k) (l k) (c k)) := (hb.cell (mcell_lt (hh k hlt))).trans (hh k hlt)
      have i1 : (0 : Int) ≤ (k : Int) := by omega
      have i2 : (k : Int) < (m : Int) := by omega
      obtain ⟨P', C', hown, hread⟩ := hall.out
      have sz := hb.size
      have HOW : Hid (wr.ownsRow w.heap.size 24 1 ov k (vals (fun i => .slice (P' i) (l i) (C' i)) k) ∧ ∀ i, i < k → ReadsA ov wr (P' i) (l i) (fun j => .int .u32 (X i j))) := ⟨hown, hread⟩
      have HPK : Hid (Reads wr (P k) (l k) (fun j => .int .u32 (X k j))) := (HL.out.1.parts k hlt).below hb
      clear hh hall hown hread
      go_wp2_with (first
        | (go_at_call 37; refine (twin_any _ _ _ (X k) _ (HL.out.2.2.1 k) (HL.out.2.2.2 k) HPK.out).mono ?_; rintro e w1 ⟨q1, c1, rfl, hR1, hnew, h00, hnc1, hb1⟩; have HR1 : Hid (Reads w1 q1 (l k) (fun j => .int .u32 (X k j)) ∧ (∀ b o s, q1 = some ⟨b, o, s⟩ → wr.heap.size ≤ b)) := ⟨hR1, hnew⟩; have hown1 : Hid (w1.ownsRow w.heap.size 24 1 ov k (vals (fun i => .slice (P' i) (l i) (C' i)) k)) := owns_below HOW.out.1 hb1; have sz1 := hb1.size; clear hR1 hnew)
        | (at_builtin; refine wpList_append_own_at _ rfl _ _ 22 rfl w.heap.size 24 i0 _ 1 24 Try.underlying22 hi0 hz0 hz1 hz2 rfl (by decide) ov k (vals (fun i => .slice (P' i) (l i) (C' i)) k) rfl (hown1.out.alloc _) ⟨w1.heap.size, 0, none⟩ 1 1 [.slice q1 (l k) c1] rfl rfl (World.news_of_block (cs := #[.slice q1 (l k) c1]) (t := 24) (fr := (0, 0)) (heap_alloc_new w1 _)) (by simp [Value.oneCell']) (by unfold maxLen; omega) (by omega) (by simp; omega) ?_; intro v' w2 hown2 hgrow hnil hat; have HO2 : Hid (w2.ownsRow w.heap.size 24 1 v' (k + 1) (vals (fun i => .slice (P' i) (l i) (C' i)) k ++ [.slice q1 (l k) c1]) ∧ (w1.alloc (.cells #[.slice q1 (l k) c1] 24)).grownBy w2 ov.ownBlock ∧ (v'.ownBlock = ov.ownBlock ∨ v'.ownBlock = some (w1.alloc (.cells #[.slice q1 (l k) c1] 24)).heap.size)) := ⟨hown2, hgrow, hat⟩; clear hown2 hgrow hnil hat))
      go_roundw
      case rel =>
        obtain ⟨ho2, hgrow, hat⟩ := HO2.out
        have hob := HOW.out.1.lt
        refine ⟨Below.grown ((bel hb hb1).alloc (by omega) _) hgrow (by simp; omega) (fun j e => (hob j e).1), k + 1, _, rfl, by omega, by go_num, put1 P' k q1, put1 C' k c1, ?_, ?_⟩
        · rw [vals_succ, put1_at, put1_at, vals_congr (Y := fun i => .slice (P' i) (l i) (C' i)) (fun i hi => by rw [put1_lt _ _ hi, put1_lt _ _ hi])]
          exact ho2
        · intro i hi
          by_cases e : i = k
          · subst e
            rw [put1_at]
            exact ((ReadsA.new (v := ov) HR1.out.1 HR1.out.2 (fun j e => (hob j e).2)).below (mbel_alloc w1 _)).grown hgrow hat
          · rw [put1_lt _ _ (by omega)]
            exact (((HOW.out.2 i (by omega)).below hb1).below (mbel_alloc w1 _)).grown hgrow hat
      case measure => simp [intOf]; omega
    · have : k = m := by omega
      subst this
      obtain ⟨P', C', hown, hread⟩ := hall.out
      obtain ⟨q', cap, rfl, hR, hg, -, hmc⟩ := own_form2 hown
      have HR : Hid (Lsts .u32 wr q' k P' l C' X) := ⟨hR, fun i hi => (hread i hi).out⟩
      clear hh hR hg hown hall hread
      go_wp2
      go_ret
      exact ⟨_, _, _, _, rfl, hmc, HR.out, hb⟩

end Go.Proofs.Ytpidcmfmdgppbaa
