import Derived.Test.YtpidjmgifglmiaaTreeSure
import Derived.Test.YtpidjmgifglmiaaTreeLimP
import Derived.Test.YtpidjmgifglmiaaTreeTwinR
import Derived.Test.YtpidjmgifglmiaaTreeRefFind
/- The walk of TreeLimits. -/
namespace Go.Proofs.Ytpidjmgifglmiaa
open Go.RowKit
set_option linter.unusedVariables false
set_option linter.unusedSimpArgs false

/-- A node that lies boxed, with its arguments. -/
def BxN (v : World) (G : Nat) (t : Nd) (s : Value) : Prop := v.heap[G]? = some (.cells #[.int .i64 t.kind, .string t.name, .int .u32 t.num, .int .i64 t.int_, .string t.key, s, .int .i64 t.at_] 26) ∧ Kids v anyH s t.args
theorem BxN.below {v v' : World} {G B : Nat} {t : Nd} {s : Value} (h : BxN v G t s) (k : Below v.heap.size v v') : BxN v' G t s := ⟨by rw [k.block _ (hlt h.1)]; exact h.1, h.2.below k⟩

theorem Kids.under {M : Nat} {V V' : World} {v : Value} {l : List Nd} (h : Kids V (kidH 0 M none) v l) (k : Below M V V') : Kids V' (kidH 0 M none) v l :=
  h.keep fun p n c b o j u hq hp hj => by
    rw [World.cell?_of_block (w := V) (a := ⟨b, o + j, none⟩) (k.block b (hq b o hp).2.1)]
    exact hj
theorem RowN.off2 {w w' : World} {C G : Nat} {v : Value} {l : List Nd} {R : List (Nd × Value)} (h : RowN w C v l R) (k : Off G w w') (hG : v.ownBlock ≠ some G) (hl : ∀ t ∈ l, t.args = []) : RowN w' C v l R := by
  refine ⟨h.1, ⟨h.2.1.1, ?_⟩, fun r hr => ?_⟩
  · rcases h.2.1.2 with hv | ⟨g, cap, cur, hv, hB, hg, hr⟩
    · exact .inl hv
    · refine .inr ⟨g, cap, cur, hv, hB, ?_, hr⟩
      rw [k.2.2.2.2 g (fun e => hG (by rw [hv, ← e]; rfl))]
      exact hg
  · have hm : r.1 ∈ l := by rw [← h.1]; exact List.mem_map.2 ⟨r, hr, rfl⟩
    obtain ⟨p, c, hv, hq, -⟩ := h.2.2 r hr
    rw [k.2.2.2.1]
    exact ⟨p, c, hv, hq, .inl (hl _ hm)⟩
theorem nv_chn (k : Nat) (sv : Value) : nv (chn k) sv = .agg #[.int .i64 1, .string (chn k).name, .int .u32 0, .int .i64 0, .string ⟨#[]⟩, sv, .int .i64 0] := by cases k <;> rfl
theorem chn_len (k : Nat) : (chn k).args.length ≤ 1 := by cases k with | zero => exact Nat.zero_le _ | succ k => exact Nat.le_refl _
theorem zs_succ (k : Nat) : zs k ++ ⟨#[122]⟩ = zs (k + 1) := by
  apply ByteArray.ext
  apply Array.toList_inj.1
  rw [ByteArray.data_append]
  simp [zs, List.replicate_succ']
/-- One more round it. -/
theorem chn_next {wr W2 : World} {N k : Nat} {p : Option Addr} {m c : Nat} (hN : N < wr.heap.size)
    (hk : Kids wr (kidH (N + 1) wr.heap.size none) (.slice p m c) (chn k).args) (ho : Off N wr W2) :
    Kids (W2.alloc (.cells #[.int .i64 1, .string (chn k).name, .int .u32 0, .int .i64 0, .string ⟨#[]⟩, .slice p m c, .int .i64 0] 26)) (kidH (N + 1) (W2.alloc (.cells #[.int .i64 1, .string (chn k).name, .int .u32 0, .int .i64 0, .string ⟨#[]⟩, .slice p m c, .int .i64 0] 26)).heap.size none) (.slice (some ⟨wr.heap.size, 0, none⟩) 1 1) [chn k] := by
  have hs2 : W2.heap.size = wr.heap.size := ho.2.2.2.1
  obtain ⟨W', hW'⟩ : ∃ W', W2.alloc (.cells #[.int .i64 1, .string (chn k).name, .int .u32 0, .int .i64 0, .string ⟨#[]⟩, .slice p m c, .int .i64 0] 26) = W' := ⟨_, rfl⟩
  have hR : W'.heap[wr.heap.size]? = some (.cells #[.int .i64 1, .string (chn k).name, .int .u32 0, .int .i64 0, .string ⟨#[]⟩, .slice p m c, .int .i64 0] 26) := by
    rw [← hW', ← hs2]; exact box_heap _ _
  have hsz : W'.heap.size = wr.heap.size + 1 := by rw [← hW', ← hs2]; simp
  have hold : ∀ b, N + 1 ≤ b → b < wr.heap.size → W'.heap[b]? = wr.heap[b]? := fun b h1 h2 => by
    rw [← hW', Below.heap_alloc W2 _ b (by omega)]
    exact ho.2.2.2.2 b (by omega)
  rw [hW']
  have hk2 : Kids W' (kidH (N + 1) W'.heap.size none) (.slice p m c) (chn k).args := (hk.keep (w' := W') fun p n c b o j u hq hp hj => by
    have hq' := hq b o hp
    rw [World.cell?_of_block (w := wr) (a := ⟨b, o + j, none⟩) (hold b hq'.1 hq'.2.1)]
    exact hj).weak (kidH.mono (by omega))
  have e1 : (chn k).kind = 1 := by cases k <;> rfl
  have e2 : (chn k).num = 0 := by cases k <;> rfl
  have e3 : (chn k).int_ = 0 := by cases k <;> rfl
  have e4 : (chn k).key = ⟨#[]⟩ := by cases k <;> rfl
  have e5 : (chn k).at_ = 0 := by cases k <;> rfl
  refine ⟨some ⟨wr.heap.size, 0, none⟩, 1, rfl, fun b o e => ?_, .inr ⟨wr.heap.size, 0, rfl, KA_cons.2 ⟨⟨?_, ?_, ?_, ?_, ?_, ?_, _, cell_heap hR 5, hk2⟩, KA_nil _ _ _ _⟩⟩⟩
  · cases e
    exact ⟨by omega, by omega, by simp⟩
  · rw [e1]; exact cell_heap hR 0
  · exact cell_heap hR 1
  · rw [e2]; exact cell_heap hR 2
  · rw [e3]; exact cell_heap hR 3
  · rw [e4]; exact cell_heap hR 4
  · rw [e5]; exact cell_heap hR 6

set_option maxRecDepth 100000 in
set_option maxHeartbeats 4000000 in
theorem walk_TreeLimits (w : World) : Calls Try.prog 8 #[] w fun e w' => e = .returned (.bool true) ∧ Below w.heap.size w w' := by
  obtain ⟨i0, hi0, hz0, hz1, hz2⟩ := info_parts info_Node
  have HB0 : Hid (Below w.heap.size w (w.alloc (.cells #[.int .i64 1, .string ⟨#[97]⟩, .int .u32 0, .int .i64 0, .string ⟨#[]⟩, .slice none 0 0, .int .i64 0] 26)) ∧ (w.alloc (.cells #[.int .i64 1, .string ⟨#[97]⟩, .int .u32 0, .int .i64 0, .string ⟨#[]⟩, .slice none 0 0, .int .i64 0] 26)).heap[w.heap.size]? = some (.cells #[.int .i64 1, .string ⟨#[97]⟩, .int .u32 0, .int .i64 0, .string ⟨#[]⟩, .slice none 0 0, .int .i64 0] 26)) := ⟨bel_alloc _ _, box_heap _ _⟩
  go_enter Try.func8, Try.ntmps8
  go_wp2
  go_loopw [2] (fun iv wr => Below w.heap.size w wr ∧ ∃ (k : Nat) (nm : ByteArray) (p : Option Addr) (m c : Nat), k ≤ 63 ∧ iv = .int .i64 ((k : Int) + 1) ∧ wr.heap[w.heap.size]? = some (.cells #[.int .i64 1, .string nm, .int .u32 0, .int .i64 0, .string ⟨#[]⟩, .slice p m c, .int .i64 0] 26) ∧ Hid (nm = (chn k).name ∧ Kids wr (kidH (w.heap.size + 1) wr.heap.size none) (.slice p m c) (chn k).args)) (fun iv _ => 64 - (intOf iv).toNat)
  case atStart => exact ⟨HB0.out.1, 0, _, none, 0, 0, by omega, rfl, HB0.out.2, rfl, ⟨none, 0, rfl, (fun b o e => by cases e), .inl rfl⟩⟩
  case round =>
    obtain ⟨hb, k, nm, p, m, c, hk, rfl, hx, hS⟩ := hrel
    have hN := hlt hx
    obtain ⟨⟨r0, r1, r2, r3, r4, r5, r6⟩, f0, f1, f2, f3, f4, f5, f6⟩ := seven hx
    have HX : Hid (wr.heap[w.heap.size]? = some (.cells #[.int .i64 1, .string nm, .int .u32 0, .int .i64 0, .string ⟨#[]⟩, .slice p m c, .int .i64 0] 26)) := hx
    clear hx HB0
    by_cases hk3 : k < 63
    · have i2 : (k : Int) + 1 < 64 := by omega
      go_wp2
      go_roundw
      case rel =>
        have ho := (((((((Off.refl w.heap.size wr).set 0 (.int .i64 1)).set 1 (.string ⟨#[98]⟩)).set 2 (.int .u32 0)).set 3 (.int .i64 0)).set 4 (.string ⟨#[]⟩)).set 5 (.slice (some ⟨wr.heap.size, 0, none⟩) 1 1)).set 6 (.int .i64 0)
        have hp := put_all HX.out (.int .i64 1) (.string ⟨#[98]⟩) (.int .u32 0) (.int .i64 0) (.string ⟨#[]⟩) (.slice (some ⟨wr.heap.size, 0, none⟩) 1 1) (.int .i64 0)
        obtain ⟨hnm, hkk⟩ := hS.out
        rw [hnm]
        exact ⟨bel (ho.below hb (Nat.le_refl _)) (bel_alloc _ _), k + 1, ⟨#[98]⟩, some ⟨wr.heap.size, 0, none⟩, 1, 1, by omega, by go_num, heap_old _ _ hp, rfl, chn_next (k := k) hN hkk ho⟩
      case measure => simp [intOf]; omega
    · have HK3 : Hid (k = 63) := (show k = 63 by omega)
      have i2 : ¬ ((k : Int) + 1 < 64) := by omega
      clear hk hk3
      go_wp2
      have hb3 : Below wr.heap.size wr (((wr.alloc (.cells #[.int .i64 1, .string nm, .int .u32 0, .int .i64 0, .string ⟨#[]⟩, .slice p m c, .int .i64 0] 26)).alloc (.cells #[.int .i64 1, .string ⟨#[98]⟩, .int .u32 0, .int .i64 0, .string ⟨#[]⟩, .slice (some ⟨wr.heap.size, 0, none⟩) 1 1, .int .i64 0] 26)).alloc (.cells #[.int .i64 1, .string ⟨#[99]⟩, .int .u32 0, .int .i64 0, .string ⟨#[]⟩, .slice none 0 0, .int .i64 0] 26)) := bel (bel (bel_alloc _ _) (bel_alloc _ _)) (bel_alloc _ _)
      have hxN : (((wr.alloc (.cells #[.int .i64 1, .string nm, .int .u32 0, .int .i64 0, .string ⟨#[]⟩, .slice p m c, .int .i64 0] 26)).alloc (.cells #[.int .i64 1, .string ⟨#[98]⟩, .int .u32 0, .int .i64 0, .string ⟨#[]⟩, .slice (some ⟨wr.heap.size, 0, none⟩) 1 1, .int .i64 0] 26)).alloc (.cells #[.int .i64 1, .string ⟨#[99]⟩, .int .u32 0, .int .i64 0, .string ⟨#[]⟩, .slice none 0 0, .int .i64 0] 26)).heap[w.heap.size]? = some (.cells #[.int .i64 1, .string nm, .int .u32 0, .int .i64 0, .string ⟨#[]⟩, .slice p m c, .int .i64 0] 26) := by rw [hb3.block _ hN]; exact HX.out
      have hxD : (((wr.alloc (.cells #[.int .i64 1, .string nm, .int .u32 0, .int .i64 0, .string ⟨#[]⟩, .slice p m c, .int .i64 0] 26)).alloc (.cells #[.int .i64 1, .string ⟨#[98]⟩, .int .u32 0, .int .i64 0, .string ⟨#[]⟩, .slice (some ⟨wr.heap.size, 0, none⟩) 1 1, .int .i64 0] 26)).alloc (.cells #[.int .i64 1, .string ⟨#[99]⟩, .int .u32 0, .int .i64 0, .string ⟨#[]⟩, .slice none 0 0, .int .i64 0] 26)).heap[wr.heap.size + 1]? = some (.cells #[.int .i64 1, .string ⟨#[98]⟩, .int .u32 0, .int .i64 0, .string ⟨#[]⟩, .slice (some ⟨wr.heap.size, 0, none⟩) 1 1, .int .i64 0] 26) := heap_old _ _ (two_heap _ _ _)
      have hxM : (((wr.alloc (.cells #[.int .i64 1, .string nm, .int .u32 0, .int .i64 0, .string ⟨#[]⟩, .slice p m c, .int .i64 0] 26)).alloc (.cells #[.int .i64 1, .string ⟨#[98]⟩, .int .u32 0, .int .i64 0, .string ⟨#[]⟩, .slice (some ⟨wr.heap.size, 0, none⟩) 1 1, .int .i64 0] 26)).alloc (.cells #[.int .i64 1, .string ⟨#[99]⟩, .int .u32 0, .int .i64 0, .string ⟨#[]⟩, .slice none 0 0, .int .i64 0] 26)).heap[wr.heap.size + 1 + 1]? = some (.cells #[.int .i64 1, .string ⟨#[99]⟩, .int .u32 0, .int .i64 0, .string ⟨#[]⟩, .slice none 0 0, .int .i64 0] 26) := by
        have h1 := box_heap ((wr.alloc (.cells #[.int .i64 1, .string nm, .int .u32 0, .int .i64 0, .string ⟨#[]⟩, .slice p m c, .int .i64 0] 26)).alloc (.cells #[.int .i64 1, .string ⟨#[98]⟩, .int .u32 0, .int .i64 0, .string ⟨#[]⟩, .slice (some ⟨wr.heap.size, 0, none⟩) 1 1, .int .i64 0] 26)) (.cells #[.int .i64 1, .string ⟨#[99]⟩, .int .u32 0, .int .i64 0, .string ⟨#[]⟩, .slice none 0 0, .int .i64 0] 26)
        rwa [show ((wr.alloc (.cells #[.int .i64 1, .string nm, .int .u32 0, .int .i64 0, .string ⟨#[]⟩, .slice p m c, .int .i64 0] 26)).alloc (.cells #[.int .i64 1, .string ⟨#[98]⟩, .int .u32 0, .int .i64 0, .string ⟨#[]⟩, .slice (some ⟨wr.heap.size, 0, none⟩) 1 1, .int .i64 0] 26)).heap.size = wr.heap.size + 1 + 1 by simp] at h1
      have hsV : (((wr.alloc (.cells #[.int .i64 1, .string nm, .int .u32 0, .int .i64 0, .string ⟨#[]⟩, .slice p m c, .int .i64 0] 26)).alloc (.cells #[.int .i64 1, .string ⟨#[98]⟩, .int .u32 0, .int .i64 0, .string ⟨#[]⟩, .slice (some ⟨wr.heap.size, 0, none⟩) 1 1, .int .i64 0] 26)).alloc (.cells #[.int .i64 1, .string ⟨#[99]⟩, .int .u32 0, .int .i64 0, .string ⟨#[]⟩, .slice none 0 0, .int .i64 0] 26)).heap.size = wr.heap.size + 1 + 1 + 1 := by simp
      obtain ⟨hnm, hkk⟩ := hS.out
      have hkN : Kids (((wr.alloc (.cells #[.int .i64 1, .string nm, .int .u32 0, .int .i64 0, .string ⟨#[]⟩, .slice p m c, .int .i64 0] 26)).alloc (.cells #[.int .i64 1, .string ⟨#[98]⟩, .int .u32 0, .int .i64 0, .string ⟨#[]⟩, .slice (some ⟨wr.heap.size, 0, none⟩) 1 1, .int .i64 0] 26)).alloc (.cells #[.int .i64 1, .string ⟨#[99]⟩, .int .u32 0, .int .i64 0, .string ⟨#[]⟩, .slice none 0 0, .int .i64 0] 26)) (kidH 0 (wr.heap.size + 1 + 1) none) (.slice p m c) (chn k).args := (hkk.below hb3).weak fun p n c hq b o e => ⟨Nat.zero_le _, by have := (hq b o e).2.1; omega, by simp⟩
      have hkD : Kids (((wr.alloc (.cells #[.int .i64 1, .string nm, .int .u32 0, .int .i64 0, .string ⟨#[]⟩, .slice p m c, .int .i64 0] 26)).alloc (.cells #[.int .i64 1, .string ⟨#[98]⟩, .int .u32 0, .int .i64 0, .string ⟨#[]⟩, .slice (some ⟨wr.heap.size, 0, none⟩) 1 1, .int .i64 0] 26)).alloc (.cells #[.int .i64 1, .string ⟨#[99]⟩, .int .u32 0, .int .i64 0, .string ⟨#[]⟩, .slice none 0 0, .int .i64 0] 26)) (kidH 0 (wr.heap.size + 1 + 1) none) (.slice (some ⟨wr.heap.size, 0, none⟩) 1 1) [chn k] := by
        have h1 := chn_next (k := k) hN hkk (Off.refl w.heap.size wr)
        rw [← hnm] at h1
        exact (h1.below (bel (bel_alloc _ _) (bel_alloc _ _))).weak fun p n c hq b o e => ⟨Nat.zero_le _, by have := (hq b o e).2.1; simp at this; omega, by simp⟩
      have hbV := bel hb hb3
      have hNM : w.heap.size < wr.heap.size + 1 + 1 := by omega
      have hDM : wr.heap.size + 1 < wr.heap.size + 1 + 1 := by omega
      clear hb hb3 hS hkk HX r0 r1 r2 r3 r4 r5 r6 f0 f1 f2 f3 f4 f5 f6 hN i2
      obtain ⟨V, hV⟩ : ∃ V, (((wr.alloc (.cells #[.int .i64 1, .string nm, .int .u32 0, .int .i64 0, .string ⟨#[]⟩, .slice p m c, .int .i64 0] 26)).alloc (.cells #[.int .i64 1, .string ⟨#[98]⟩, .int .u32 0, .int .i64 0, .string ⟨#[]⟩, .slice (some ⟨wr.heap.size, 0, none⟩) 1 1, .int .i64 0] 26)).alloc (.cells #[.int .i64 1, .string ⟨#[99]⟩, .int .u32 0, .int .i64 0, .string ⟨#[]⟩, .slice none 0 0, .int .i64 0] 26)) = V := ⟨_, rfl⟩
      rw [hV] at hxN hxD hxM hsV hkN hkD hbV
      rw [hV]
      clear hV
      obtain ⟨M, hM⟩ : ∃ M, wr.heap.size + 1 + 1 = M := ⟨_, rfl⟩
      rw [hM] at hxM hsV hNM hDM hkN hkD
      rw [hM]
      clear hM
      obtain ⟨D, hD⟩ : ∃ D, wr.heap.size + 1 = D := ⟨_, rfl⟩
      rw [hD] at hxD hDM
      rw [hD]
      clear hD
      obtain ⟨R, hR⟩ : ∃ R, wr.heap.size = R := ⟨_, rfl⟩
      rw [hR] at hxD hkD
      rw [hR]
      clear hR
      have HA : Hid ((V.heap[w.heap.size]? = some (.cells #[.int .i64 1, .string nm, .int .u32 0, .int .i64 0, .string ⟨#[]⟩, .slice p m c, .int .i64 0] 26) ∧ V.heap[D]? = some (.cells #[.int .i64 1, .string ⟨#[98]⟩, .int .u32 0, .int .i64 0, .string ⟨#[]⟩, .slice (some ⟨R, 0, none⟩) 1 1, .int .i64 0] 26)) ∧ Kids V (kidH 0 M none) (.slice p m c) (chn k).args ∧ Kids V (kidH 0 M none) (.slice (some ⟨R, 0, none⟩) 1 1) [chn k] ∧ Below w.heap.size w V ∧ nm = (chn k).name) := ⟨⟨hxN, hxD⟩, hkN, hkD, hbV, hnm⟩
      have HM0 : Hid (V.heap[M]? = some (.cells #[.int .i64 1, .string ⟨#[99]⟩, .int .u32 0, .int .i64 0, .string ⟨#[]⟩, .slice none 0 0, .int .i64 0] 26)) := hxM
      clear hxN hxD hxM hkN hkD hbV hnm wr
      go_loopw [5] (fun iv wq => Below M V wq ∧ ∃ (k : Nat) (ov : Value), k ≤ 4095 ∧ iv = .int .i64 ((k : Int) + 1) ∧ wq.heap[M]? = some (.cells #[.int .i64 1, .string ⟨#[99]⟩, .int .u32 0, .int .i64 0, .string ⟨#[]⟩, ov, .int .i64 0] 26) ∧ Hid (∃ R, RowN wq (M + 1) ov (lvs k) R)) (fun iv _ => 4096 - (intOf iv).toNat)
      case atStart => exact ⟨(bel0 V).mono (by omega), 0, _, by omega, rfl, HM0.out, [], by rw [lvs_zero]; exact RowN.nil _ _⟩
      case round =>
        obtain ⟨hb, j, ov, hj, rfl, hx, R2, hR2⟩ := hrel
        have hN := hlt hx
        have hlen := lvs_len j
        obtain ⟨⟨r0, r1, r2, r3, r4, r5, r6⟩, f0, f1, f2, f3, f4, f5, f6⟩ := seven hx
        have HX : Hid (wr.heap[M]? = some (.cells #[.int .i64 1, .string ⟨#[99]⟩, .int .u32 0, .int .i64 0, .string ⟨#[]⟩, ov, .int .i64 0] 26)) := hx
        have HR2 : Hid (RowN wr (M + 1) ov (lvs j) R2) := hR2
        clear hx HM0 hR2
        by_cases hk3 : j < 4095
        · have i2 : (j : Int) + 1 < 4096 := by omega
          go_wp2_with (at_builtin; refine wpList_append_lies _ rfl _ _ 24 rfl (M + 1) 26 i0 _ 7 88 Try.underlying24 hi0 hz0 hz1 hz2 rfl (by decide) ov j (cellsN R2) rfl (World.ownsRow.alloc (by have := HR2.out.2.1; rw [hlen] at this; exact this) _) ⟨wr.heap.size, 0, none⟩ 1 1 [.int .i64 3, .string ⟨#[]⟩, .int .u32 0, .int .i64 ((j : Int) + 1), .string ⟨#[]⟩, .slice none 0 0, .int .i64 0] rfl rfl (World.news_of_block (cs := #[.int .i64 3, .string ⟨#[]⟩, .int .u32 0, .int .i64 ((j : Int) + 1), .string ⟨#[]⟩, .slice none 0 0, .int .i64 0]) (t := 26) (fr := (0, 0)) (box_heap wr _)) (by simp [Value.oneCell']) (by decide) (by unfold maxLen; omega) (by omega) (by simp; omega) (wr.heap.size + 1) (by simp) ?_; intro g cap w4 hown4 hgrow hat hlt4; have hx4 : w4.heap[M]? = some (.cells #[.int .i64 1, .string ⟨#[99]⟩, .int .u32 0, .int .i64 0, .string ⟨#[]⟩, ov, .int .i64 0] 26) := (by rw [hgrow.block M (by simp; omega) (fun e => by have := (HR2.out.2.1.lt M e.symm).1; omega)]; exact heap_old _ _ HX.out); obtain ⟨⟨y0, y1, y2, y3, y4, y5, y6⟩, g0, g1, g2, g3, g4, g5, g6⟩ := seven hx4; have HX4 : Hid (w4.heap[M]? = some (.cells #[.int .i64 1, .string ⟨#[99]⟩, .int .u32 0, .int .i64 0, .string ⟨#[]⟩, ov, .int .i64 0] 26)) := hx4; have HO4 : Hid (w4.ownsRow (M + 1) 26 7 (.slice (some ⟨g, 0, none⟩) (j + 1) cap) (j + 1) (cellsN R2 ++ [.int .i64 3, .string ⟨#[]⟩, .int .u32 0, .int .i64 ((j : Int) + 1), .string ⟨#[]⟩, .slice none 0 0, .int .i64 0])) := hown4; have HG4 : Hid ((wr.alloc (.cells #[.int .i64 3, .string ⟨#[]⟩, .int .u32 0, .int .i64 ((j : Int) + 1), .string ⟨#[]⟩, .slice none 0 0, .int .i64 0] 26)).grownBy w4 ov.ownBlock) := hgrow; have HA4 : Hid (ov.ownBlock = some g ∨ g = wr.heap.size + 1) := hat; clear hown4 hgrow hat hx4)
          go_roundw
          case rel =>
            have hb4 : Below M V w4 := Below.grown (hb.trans ((bel_alloc wr _).mono (by omega))) HG4.out (by simp; omega) (fun k hk => by have := (HR2.out.2.1.lt k hk).1; omega)
            have ho := (Off.refl M w4).set 5 (.slice (some ⟨g, 0, none⟩) (j + 1) cap)
            have hx5 : (w4.setCell ⟨M, 5, none⟩ (.slice (some ⟨g, 0, none⟩) (j + 1) cap)).heap[M]? = some (.cells #[.int .i64 1, .string ⟨#[99]⟩, .int .u32 0, .int .i64 0, .string ⟨#[]⟩, .slice (some ⟨g, 0, none⟩) (j + 1) cap, .int .i64 0] 26) := heap_setAt HX4.out 5 _
            have hr4 := RowN.push (t := leaf ((j : Int) + 1)) (s := .slice none 0 0) HR2.out (bel_alloc wr (.cells #[.int .i64 3, .string ⟨#[]⟩, .int .u32 0, .int .i64 ((j : Int) + 1), .string ⟨#[]⟩, .slice none 0 0, .int .i64 0] 26)) ⟨none, 0, rfl, (fun b o e => by cases e), .inl rfl⟩ HG4.out (by simpa using HA4.out) (by rw [hlen]; exact HO4.out)
            rw [hlen, ← lvs_succ] at hr4
            exact ⟨ho.below hb4 (Nat.le_refl _), j + 1, _, by omega, by go_num, hx5, _, hr4.off ho (by omega)⟩
          case measure => simp [intOf]; omega
        · have HJ : Hid (j = 4095) := (show j = 4095 by omega)
          have i2 : ¬ ((j : Int) + 1 < 4096) := by omega
          have hkk := HR2.out.kids
          obtain ⟨pv, cv, hov, -⟩ := id hkk
          rw [hlen] at hov
          subst hov
          have hkM : Kids wr anyH (.slice pv j cv) (lvs j) := hkk.weak fun _ _ _ _ => trivial
          have hjj := HJ.out
          have HTW : Hid (Calls Try.prog 11 #[.agg #[.int .i64 1, .string ⟨#[99]⟩, .int .u32 0, .int .i64 0, .string ⟨#[]⟩, .slice pv j cv, .int .i64 0]] wr fun e v' => ∃ q n d R, e = .returned (.agg #[.int .i64 1, .string ⟨#[99]⟩, .int .u32 0, .int .i64 0, .string ⟨#[]⟩, .slice q n d, .int .i64 0]) ∧ RowN v' (wr.heap.size + 2) (.slice q n d) (lvs j) R ∧ Below wr.heap.size wr v') := by
            have h1 := twin_row (dep (manyT j)) (manyT j) pv cv wr (Nat.le_refl _) (by rw [many_cnt hjj]; decide) (by show Kids wr anyH (.slice pv (lvs j).length cv) (lvs j); rw [hlen]; exact hkM)
            have e : nv (manyT j) (.slice pv (manyT j).args.length cv) = .agg #[.int .i64 1, .string ⟨#[99]⟩, .int .u32 0, .int .i64 0, .string ⟨#[]⟩, .slice pv j cv, .int .i64 0] := by show nv (manyT j) (.slice pv (lvs j).length cv) = _; rw [hlen]; rfl
            rw [e] at h1
            exact h1.mono fun e v' ⟨q, n, d, he, _, hb, R, hr⟩ => ⟨q, n, d, R, he, hr, hb⟩
          have HQ : Hid ((wr.heap[w.heap.size]? = some (.cells #[.int .i64 1, .string nm, .int .u32 0, .int .i64 0, .string ⟨#[]⟩, .slice p m c, .int .i64 0] 26) ∧ wr.heap[D]? = some (.cells #[.int .i64 1, .string ⟨#[98]⟩, .int .u32 0, .int .i64 0, .string ⟨#[]⟩, .slice (some ⟨R, 0, none⟩) 1 1, .int .i64 0] 26) ∧ wr.heap[M]? = some (.cells #[.int .i64 1, .string ⟨#[99]⟩, .int .u32 0, .int .i64 0, .string ⟨#[]⟩, .slice pv j cv, .int .i64 0] 26)) ∧ Kids wr anyH (.slice p m c) (chn k).args ∧ Kids wr anyH (.slice (some ⟨R, 0, none⟩) 1 1) [chn k] ∧ Kids wr anyH (.slice pv j cv) (lvs j) ∧ Below w.heap.size w wr ∧ nm = (chn k).name) := by
            obtain ⟨⟨a1, a2⟩, a3, a4, a5, a6⟩ := HA.out
            refine ⟨⟨by rw [hb.block _ hNM]; exact a1, by rw [hb.block _ hDM]; exact a2, HX.out⟩, ?_, ?_, hkM, ?_, a6⟩
            · exact (a3.under hb).weak fun _ _ _ _ => trivial
            · exact (a4.under hb).weak fun _ _ _ _ => trivial
            · exact a5.trans (hb.mono (by omega))
          clear hb hkk hkM hjj HA HX HR2
          go_upto_region 13 with (go_at_call 11; (with_reducible refine HTW.out.mono ?_); rintro e w5 ⟨q, n, d, R5, rfl, hr5, hb5⟩)
          have hnj : n = j := by
            obtain ⟨_, _, e1, -⟩ := hr5.kids
            rw [hlen] at e1
            simp only [Value.slice.injEq] at e1
            exact e1.2.1
          subst hnj
          have HRL : Hid (∀ k, Value.ownBlock (.slice q n d) = some k → wr.heap.size + 2 ≤ k ∧ k < w5.heap.size) := fun k hk => hr5.2.1.lt k hk
          have HR5 : Hid (RowN (w5.alloc (.cells #[.int .i64 1, .string ⟨#[99]⟩, .int .u32 0, .int .i64 0, .string ⟨#[]⟩, .slice q n d, .int .i64 0] 26)) (wr.heap.size + 2) (.slice q n d) (lvs n) R5) := hr5.below (bel_alloc _ _)
          have HBE : Hid (Below wr.heap.size wr (w5.alloc (.cells #[.int .i64 1, .string ⟨#[99]⟩, .int .u32 0, .int .i64 0, .string ⟨#[]⟩, .slice q n d, .int .i64 0] 26))) := bel hb5 (bel_alloc _ _)
          have hxE := box_heap w5 (.cells #[.int .i64 1, .string ⟨#[99]⟩, .int .u32 0, .int .i64 0, .string ⟨#[]⟩, .slice q n d, .int .i64 0] 26)
          have hsE : (w5.alloc (.cells #[.int .i64 1, .string ⟨#[99]⟩, .int .u32 0, .int .i64 0, .string ⟨#[]⟩, .slice q n d, .int .i64 0] 26)).heap.size = w5.heap.size + 1 := by simp
          have hwE := hb5.size
          have hwE2 : wr.heap.size + 2 ≤ w5.heap.size := by
            rcases hr5.2.1.2 with ⟨_, h0⟩ | ⟨g, cap, cur, _, hB, hg, _⟩
            · have := HJ.out
              rw [hlen] at h0
              omega
            · have := hlt hg
              omega
          obtain ⟨V2, hV⟩ : ∃ V, w5.alloc (.cells #[.int .i64 1, .string ⟨#[99]⟩, .int .u32 0, .int .i64 0, .string ⟨#[]⟩, .slice q n d, .int .i64 0] 26) = V := ⟨_, rfl⟩
          obtain ⟨E, hE⟩ : ∃ E, w5.heap.size = E := ⟨_, rfl⟩
          rw [hV] at HR5 HBE hxE hsE
          rw [hE] at HRL hxE hsE hwE hwE2
          rw [hV, hE]
          obtain ⟨ov, hov⟩ : ∃ v, Value.slice q n d = v := ⟨_, rfl⟩
          rw [hov] at HR5 HRL hxE
          rw [hov]
          clear hov
          clear hV hE hr5 hb5 HTW r0 r1 r2 r3 r4 r5 r6 f0 f1 f2 f3 f4 f5 f6
          obtain ⟨⟨r0, r1, r2, r3, r4, r5, r6⟩, f0, f1, f2, f3, f4, f5, f6⟩ := seven hxE
          have HXE : Hid (V2.heap[E]? = some (.cells #[.int .i64 1, .string ⟨#[99]⟩, .int .u32 0, .int .i64 0, .string ⟨#[]⟩, ov, .int .i64 0] 26)) := hxE
          have HSE : Hid (V2.heap.size = E + 1) := hsE
          clear hxE hsE i2
          have hnn := HJ.out
          have HNN : Hid (n = 4095) := hnn
          have hn2 : n ≤ 4095 := by omega
          clear hnn
          go_upto_region 14 with (at_builtin; refine wpList_append_lies _ rfl _ _ 24 rfl (wr.heap.size + 2) 26 i0 _ 7 88 Try.underlying24 hi0 hz0 hz1 hz2 rfl (by decide) ov n (cellsN R5) rfl (World.ownsRow.alloc (by have := HR5.out.2.1; rw [hlen] at this; exact this) _) ⟨V2.heap.size, 0, none⟩ 1 1 [.int .i64 3, .string ⟨#[]⟩, .int .u32 0, .int .i64 0, .string ⟨#[]⟩, .slice none 0 0, .int .i64 0] rfl rfl (World.news_of_block (cs := #[.int .i64 3, .string ⟨#[]⟩, .int .u32 0, .int .i64 0, .string ⟨#[]⟩, .slice none 0 0, .int .i64 0]) (t := 26) (fr := (0, 0)) (box_heap V2 _)) (by simp [Value.oneCell']) (by decide) (by unfold maxLen; omega) (by omega) (by have := HSE.out; simp; omega) (V2.heap.size + 1) (by simp) ?_; intro g cap w6 hown6 hgrow hat hlt6; have hx6 : w6.heap[E]? = some (.cells #[.int .i64 1, .string ⟨#[99]⟩, .int .u32 0, .int .i64 0, .string ⟨#[]⟩, ov, .int .i64 0] 26) := (by rw [hgrow.block E (by have := HSE.out; simp; omega) (fun e => by have := (HRL.out E e.symm).2; omega)]; exact heap_old _ _ HXE.out); obtain ⟨⟨y0, y1, y2, y3, y4, y5, y6⟩, g0, g1, g2, g3, g4, g5, g6⟩ := seven hx6; have HX6 : Hid (w6.heap[E]? = some (.cells #[.int .i64 1, .string ⟨#[99]⟩, .int .u32 0, .int .i64 0, .string ⟨#[]⟩, ov, .int .i64 0] 26)) := hx6; have HO6 : Hid (w6.ownsRow (wr.heap.size + 2) 26 7 (.slice (some ⟨g, 0, none⟩) (n + 1) cap) (n + 1) (cellsN R5 ++ [.int .i64 3, .string ⟨#[]⟩, .int .u32 0, .int .i64 0, .string ⟨#[]⟩, .slice none 0 0, .int .i64 0])) := hown6; have HG6 : Hid ((V2.alloc (.cells #[.int .i64 3, .string ⟨#[]⟩, .int .u32 0, .int .i64 0, .string ⟨#[]⟩, .slice none 0 0, .int .i64 0] 26)).grownBy w6 ov.ownBlock) := hgrow; have HA6 : Hid (ov.ownBlock = some g ∨ g = V2.heap.size + 1) := hat; clear hown6 hgrow hat hx6)
          have hsE := HSE.out
          have hb6 : Below wr.heap.size wr w6 := Below.grown (HBE.out.trans ((bel_alloc V2 _).mono (by omega))) HG6.out (by simp; omega) (fun k hk => by have := (HRL.out k hk).1; omega)
          have ho := (Off.refl E w6).set 5 (.slice (some ⟨g, 0, none⟩) (n + 1) cap)
          have hx7 : (w6.setCell ⟨E, 5, none⟩ (.slice (some ⟨g, 0, none⟩) (n + 1) cap)).heap[E]? = some (.cells #[.int .i64 1, .string ⟨#[99]⟩, .int .u32 0, .int .i64 0, .string ⟨#[]⟩, .slice (some ⟨g, 0, none⟩) (n + 1) cap, .int .i64 0] 26) := heap_setAt HX6.out 5 _
          have hr6 := RowN.push (t := leaf 0) (s := .slice none 0 0) HR5.out (bel_alloc V2 (.cells #[.int .i64 3, .string ⟨#[]⟩, .int .u32 0, .int .i64 0, .string ⟨#[]⟩, .slice none 0 0, .int .i64 0] 26)) ⟨none, 0, rfl, (fun b o e => by cases e), .inl rfl⟩ HG6.out (by simpa using HA6.out) (by rw [hlen]; exact HO6.out)
          rw [hlen] at hr6
          have hgE : Value.ownBlock (.slice (some ⟨g, 0, none⟩) (n + 1) cap) ≠ some E := by
            intro e
            have e1 : g = E := Option.some.inj e
            rcases HA6.out with h | h
            · have := (HRL.out g h).2; omega
            · omega
          have hr7 := (hr6.off2 ho hgE (fun t ht => by
            rcases List.mem_append.1 ht with h | h
            · exact (plain_lvs n hn2 t h).1
            · simp at h; subst h; rfl)).kids
          have hb7 := ho.below hb6 hwE
          obtain ⟨V3, hV⟩ : ∃ V, w6.setCell ⟨E, 5, none⟩ (.slice (some ⟨g, 0, none⟩) (n + 1) cap) = V := ⟨_, rfl⟩
          rw [hV] at hx7 hr7 hb7
          rw [hV]
          have HV3 : Hid (V3.heap[E]? = some (.cells #[.int .i64 1, .string ⟨#[99]⟩, .int .u32 0, .int .i64 0, .string ⟨#[]⟩, .slice (some ⟨g, 0, none⟩) (n + 1) cap, .int .i64 0] 26) ∧ Kids V3 anyH (.slice (some ⟨g, 0, none⟩) (n + 1) cap) (lvs n ++ [leaf 0]) ∧ Below wr.heap.size wr V3) := ⟨hx7, hr7.weak fun _ _ _ _ => trivial, hb7⟩
          clear hV hx7 hr7 hb7 hr6 hgE ho hb6 HO6 HG6 HA6 HX6 HR5 HRL HBE HXE y0 y1 y2 y3 y4 y5 y6 g0 g1 g2 g3 g4 g5 g6 r0 r1 r2 r3 r4 r5 r6 f0 f1 f2 f3 f4 f5 f6 hlt6 hsE HSE hwE hwE2
          have HF : Hid ((V3.heap[w.heap.size]? = some (.cells #[.int .i64 1, .string nm, .int .u32 0, .int .i64 0, .string ⟨#[]⟩, .slice p m c, .int .i64 0] 26) ∧ V3.heap[D]? = some (.cells #[.int .i64 1, .string ⟨#[98]⟩, .int .u32 0, .int .i64 0, .string ⟨#[]⟩, .slice (some ⟨R, 0, none⟩) 1 1, .int .i64 0] 26) ∧ V3.heap[M]? = some (.cells #[.int .i64 1, .string ⟨#[99]⟩, .int .u32 0, .int .i64 0, .string ⟨#[]⟩, .slice pv n cv, .int .i64 0] 26) ∧ V3.heap[E]? = some (.cells #[.int .i64 1, .string ⟨#[99]⟩, .int .u32 0, .int .i64 0, .string ⟨#[]⟩, .slice (some ⟨g, 0, none⟩) (n + 1) cap, .int .i64 0] 26)) ∧ (Kids V3 anyH (.slice p m c) (chn k).args ∧ Kids V3 anyH (.slice (some ⟨R, 0, none⟩) 1 1) [chn k] ∧ Kids V3 anyH (.slice pv n cv) (lvs n) ∧ Kids V3 anyH (.slice (some ⟨g, 0, none⟩) (n + 1) cap) (lvs n ++ [leaf 0])) ∧ Below w.heap.size w V3 ∧ nm = (chn k).name) := by
            obtain ⟨⟨a1, a2, a3⟩, a4, a5, a6, a7, a8⟩ := HQ.out
            obtain ⟨c1, c2, c3⟩ := HV3.out
            exact ⟨⟨by rw [c3.block _ (hlt a1)]; exact a1, by rw [c3.block _ (hlt a2)]; exact a2, by rw [c3.block _ (hlt a3)]; exact a3, c1⟩, ⟨a4.below c3, a5.below c3, a6.below c3, c2⟩, bel a7 c3, a8⟩
          clear HQ HV3
          go_wp2
          go_loopw [7, 8] (fun sv iv w9 => V3 = w9 ∧ ∃ (k : Nat) (z : ByteArray), k ≤ 64 ∧ iv = .int .i64 (k : Int) ∧ sv = .string z ∧ z.size ≤ 64 ∧ Hid (z = zs k)) (fun _ iv _ => 64 - (intOf iv).toNat)
          case atStart => exact ⟨rfl, 0, _, by omega, rfl, rfl, by decide, rfl⟩
          case round =>
            obtain ⟨rfl, k2, z, hk2, rfl, rfl, hzs, HZ⟩ := hrel
            by_cases hk4 : k2 < 64
            · have i2 : (k2 : Int) < 64 := by omega
              go_wp2
              go_roundw
              case rel => exact ⟨by trivial, k2 + 1, _, by omega, by go_num, rfl, by rw [HZ.out, zs_succ, zs_size]; omega, by rw [HZ.out, zs_succ]; exact rfl⟩
              case measure => simp [intOf]; omega
            · have HZ2 : Hid (z = zs 64) := by
                have : k2 = 64 := by omega
                rw [HZ.out, this]
                exact rfl
              have i2 : ¬ ((k2 : Int) < 64) := by omega
              clear HZ hk2 hk4
              go_upto_region 20 with (fail)
              have hb8 : Below V3.heap.size V3 ((V3.alloc (.cells #[.int .i64 1, .string z, .int .u32 0, .int .i64 0, .string ⟨#[]⟩, .slice none 0 0, .int .i64 0] 26)).alloc (.cells #[.int .i64 1, .string (z ++ ⟨#[122]⟩), .int .u32 0, .int .i64 0, .string ⟨#[]⟩, .slice none 0 0, .int .i64 0] 26)) := bel (bel_alloc _ _) (bel_alloc _ _)
              have hL1 : ((V3.alloc (.cells #[.int .i64 1, .string z, .int .u32 0, .int .i64 0, .string ⟨#[]⟩, .slice none 0 0, .int .i64 0] 26)).alloc (.cells #[.int .i64 1, .string (z ++ ⟨#[122]⟩), .int .u32 0, .int .i64 0, .string ⟨#[]⟩, .slice none 0 0, .int .i64 0] 26)).heap[V3.heap.size]? = some (.cells #[.int .i64 1, .string z, .int .u32 0, .int .i64 0, .string ⟨#[]⟩, .slice none 0 0, .int .i64 0] 26) := heap_old _ _ (box_heap _ _)
              have hL2 : ((V3.alloc (.cells #[.int .i64 1, .string z, .int .u32 0, .int .i64 0, .string ⟨#[]⟩, .slice none 0 0, .int .i64 0] 26)).alloc (.cells #[.int .i64 1, .string (z ++ ⟨#[122]⟩), .int .u32 0, .int .i64 0, .string ⟨#[]⟩, .slice none 0 0, .int .i64 0] 26)).heap[V3.heap.size + 1]? = some (.cells #[.int .i64 1, .string (z ++ ⟨#[122]⟩), .int .u32 0, .int .i64 0, .string ⟨#[]⟩, .slice none 0 0, .int .i64 0] 26) := two_heap _ _ _
              obtain ⟨X, hX⟩ : ∃ X, (V3.alloc (.cells #[.int .i64 1, .string z, .int .u32 0, .int .i64 0, .string ⟨#[]⟩, .slice none 0 0, .int .i64 0] 26)).alloc (.cells #[.int .i64 1, .string (z ++ ⟨#[122]⟩), .int .u32 0, .int .i64 0, .string ⟨#[]⟩, .slice none 0 0, .int .i64 0] 26) = X := ⟨_, rfl⟩
              rw [hX] at hb8 hL1 hL2
              rw [hX]
              clear hX
              obtain ⟨⟨a1, a2, a3, a4⟩, ⟨c1, c2, c3, c4⟩, hbw, hnm⟩ := HF.out
              have hx1 : X.heap[w.heap.size]? = some (.cells #[.int .i64 1, .string nm, .int .u32 0, .int .i64 0, .string ⟨#[]⟩, .slice p m c, .int .i64 0] 26) := by rw [hb8.block _ (hlt a1)]; exact a1
              have hx2 : X.heap[D]? = some (.cells #[.int .i64 1, .string ⟨#[98]⟩, .int .u32 0, .int .i64 0, .string ⟨#[]⟩, .slice (some ⟨R, 0, none⟩) 1 1, .int .i64 0] 26) := by rw [hb8.block _ (hlt a2)]; exact a2
              have hx3 : X.heap[M]? = some (.cells #[.int .i64 1, .string ⟨#[99]⟩, .int .u32 0, .int .i64 0, .string ⟨#[]⟩, .slice pv n cv, .int .i64 0] 26) := by rw [hb8.block _ (hlt a3)]; exact a3
              have hx4 : X.heap[E]? = some (.cells #[.int .i64 1, .string ⟨#[99]⟩, .int .u32 0, .int .i64 0, .string ⟨#[]⟩, .slice (some ⟨g, 0, none⟩) (n + 1) cap, .int .i64 0] 26) := by rw [hb8.block _ (hlt a4)]; exact a4
              have hk63 := HK3.out
              have hn4 := HNN.out
              have hz64 := HZ2.out
              have HC1 : Hid (∀ v, Below X.heap.size X v → Calls Try.prog 12 #[.agg #[.int .i64 1, .string nm, .int .u32 0, .int .i64 0, .string ⟨#[]⟩, .slice p m c, .int .i64 0]] v fun e v' => e = .returned (.int .i64 0) ∧ Below X.heap.size X v') := fun v hv => by
                have h1 := check_any (chn k) (.slice p m c) v (by rw [chn_cnt]; omega) (chn_ok k) (c1.below (bel hb8 hv))
                rw [nv_chn, ← hnm] at h1
                have e0 : checkP (chn k) = 0 := by rw [hk63]; exact check_n
                rw [e0] at h1
                exact h1.mono fun e v' ⟨he, hb⟩ => ⟨he, bel hv hb⟩
              have HC2 : Hid (∀ v, Below X.heap.size X v → Calls Try.prog 12 #[.agg #[.int .i64 1, .string ⟨#[98]⟩, .int .u32 0, .int .i64 0, .string ⟨#[]⟩, .slice (some ⟨R, 0, none⟩) 1 1, .int .i64 0]] v fun e v' => e = .returned (.int .i64 81) ∧ Below X.heap.size X v') := fun v hv => by
                have h1 := check_any (chn (k + 1)) (.slice (some ⟨R, 0, none⟩) 1 1) v (by rw [chn_cnt]; omega) (chn_ok _) (c2.below (bel hb8 hv))
                have e0 : checkP (chn (k + 1)) = 81 := by rw [hk63]; exact check_deep
                rw [e0] at h1
                exact h1.mono fun e v' ⟨he, hb⟩ => ⟨he, bel hv hb⟩
              have HC3 : Hid (∀ v, Below X.heap.size X v → Calls Try.prog 12 #[.agg #[.int .i64 1, .string ⟨#[99]⟩, .int .u32 0, .int .i64 0, .string ⟨#[]⟩, .slice pv n cv, .int .i64 0]] v fun e v' => e = .returned (.int .i64 0) ∧ Below X.heap.size X v') := fun v hv => by
                have h1 := check_any (manyT n) (.slice pv n cv) v (by rw [many_cnt hn4]; omega) (many_ok hn4) (c3.below (bel hb8 hv))
                rw [check_many hn4] at h1
                exact h1.mono fun e v' ⟨he, hb⟩ => ⟨he, bel hv hb⟩
              have HC4 : Hid (∀ v, Below X.heap.size X v → Calls Try.prog 12 #[.agg #[.int .i64 1, .string ⟨#[99]⟩, .int .u32 0, .int .i64 0, .string ⟨#[]⟩, .slice (some ⟨g, 0, none⟩) (n + 1) cap, .int .i64 0]] v fun e v' => e = .returned (.int .i64 82) ∧ Below X.heap.size X v') := fun v hv => by
                have h1 := check_any (moreT n) (.slice (some ⟨g, 0, none⟩) (n + 1) cap) v (by rw [more_cnt hn4]; omega) (more_ok hn4) (c4.below (bel hb8 hv))
                rw [check_more hn4] at h1
                exact h1.mono fun e v' ⟨he, hb⟩ => ⟨he, bel hv hb⟩
              have HC5 : Hid (∀ v, Below X.heap.size X v → Calls Try.prog 12 #[.agg #[.int .i64 1, .string z, .int .u32 0, .int .i64 0, .string ⟨#[]⟩, .slice none 0 0, .int .i64 0]] v fun e v' => e = .returned (.int .i64 0) ∧ Below X.heap.size X v') := fun v hv => by
                have h1 := check_any (nmT (zs 64)) (.slice none 0 0) v (by rw [nm_cnt]; omega) (nm_ok 64 (by omega)) ⟨none, 0, rfl, trivial, .inl rfl⟩
                rw [check_long] at h1
                rw [hz64]
                exact h1.mono fun e v' ⟨he, hb⟩ => ⟨he, bel hv hb⟩
              have HC6 : Hid (∀ v, Below X.heap.size X v → Calls Try.prog 12 #[.agg #[.int .i64 1, .string (z ++ ⟨#[122]⟩), .int .u32 0, .int .i64 0, .string ⟨#[]⟩, .slice none 0 0, .int .i64 0]] v fun e v' => e = .returned (.int .i64 2) ∧ Below X.heap.size X v') := fun v hv => by
                have h1 := check_any (nmT (zs 65)) (.slice none 0 0) v (by rw [nm_cnt]; omega) (nm_ok 65 (by omega)) ⟨none, 0, rfl, trivial, .inl rfl⟩
                rw [check_longer] at h1
                rw [hz64, zs_succ]
                exact h1.mono fun e v' ⟨he, hb⟩ => ⟨he, bel hv hb⟩
              have HSU : Hid (∀ v, Below X.heap.size X v → Calls Try.prog 10 #[] v fun e v' => e = .returned (.bool true) ∧ Below X.heap.size X v') := fun v hv => (sure_any v).mono fun e v' ⟨he, hb⟩ => ⟨he, bel hv hb⟩
              have HCL : Hid (∀ v, Below X.heap.size X v → (v.cell? ⟨w.heap.size, 0, none⟩ = some (.int .i64 1) ∧ v.cell? ⟨w.heap.size, 1, none⟩ = some (.string nm) ∧ v.cell? ⟨w.heap.size, 2, none⟩ = some (.int .u32 0) ∧ v.cell? ⟨w.heap.size, 3, none⟩ = some (.int .i64 0) ∧ v.cell? ⟨w.heap.size, 4, none⟩ = some (.string ⟨#[]⟩) ∧ v.cell? ⟨w.heap.size, 5, none⟩ = some (.slice p m c) ∧ v.cell? ⟨w.heap.size, 6, none⟩ = some (.int .i64 0)) ∧ (v.cell? ⟨D, 0, none⟩ = some (.int .i64 1) ∧ v.cell? ⟨D, 1, none⟩ = some (.string ⟨#[98]⟩) ∧ v.cell? ⟨D, 2, none⟩ = some (.int .u32 0) ∧ v.cell? ⟨D, 3, none⟩ = some (.int .i64 0) ∧ v.cell? ⟨D, 4, none⟩ = some (.string ⟨#[]⟩) ∧ v.cell? ⟨D, 5, none⟩ = some (.slice (some ⟨R, 0, none⟩) 1 1) ∧ v.cell? ⟨D, 6, none⟩ = some (.int .i64 0)) ∧ (v.cell? ⟨M, 0, none⟩ = some (.int .i64 1) ∧ v.cell? ⟨M, 1, none⟩ = some (.string ⟨#[99]⟩) ∧ v.cell? ⟨M, 2, none⟩ = some (.int .u32 0) ∧ v.cell? ⟨M, 3, none⟩ = some (.int .i64 0) ∧ v.cell? ⟨M, 4, none⟩ = some (.string ⟨#[]⟩) ∧ v.cell? ⟨M, 5, none⟩ = some (.slice pv n cv) ∧ v.cell? ⟨M, 6, none⟩ = some (.int .i64 0)) ∧ (v.cell? ⟨E, 0, none⟩ = some (.int .i64 1) ∧ v.cell? ⟨E, 1, none⟩ = some (.string ⟨#[99]⟩) ∧ v.cell? ⟨E, 2, none⟩ = some (.int .u32 0) ∧ v.cell? ⟨E, 3, none⟩ = some (.int .i64 0) ∧ v.cell? ⟨E, 4, none⟩ = some (.string ⟨#[]⟩) ∧ v.cell? ⟨E, 5, none⟩ = some (.slice (some ⟨g, 0, none⟩) (n + 1) cap) ∧ v.cell? ⟨E, 6, none⟩ = some (.int .i64 0)) ∧ (v.cell? ⟨V3.heap.size, 0, none⟩ = some (.int .i64 1) ∧ v.cell? ⟨V3.heap.size, 1, none⟩ = some (.string z) ∧ v.cell? ⟨V3.heap.size, 2, none⟩ = some (.int .u32 0) ∧ v.cell? ⟨V3.heap.size, 3, none⟩ = some (.int .i64 0) ∧ v.cell? ⟨V3.heap.size, 4, none⟩ = some (.string ⟨#[]⟩) ∧ v.cell? ⟨V3.heap.size, 5, none⟩ = some (.slice none 0 0) ∧ v.cell? ⟨V3.heap.size, 6, none⟩ = some (.int .i64 0)) ∧ (v.cell? ⟨V3.heap.size + 1, 0, none⟩ = some (.int .i64 1) ∧ v.cell? ⟨V3.heap.size + 1, 1, none⟩ = some (.string (z ++ ⟨#[122]⟩)) ∧ v.cell? ⟨V3.heap.size + 1, 2, none⟩ = some (.int .u32 0) ∧ v.cell? ⟨V3.heap.size + 1, 3, none⟩ = some (.int .i64 0) ∧ v.cell? ⟨V3.heap.size + 1, 4, none⟩ = some (.string ⟨#[]⟩) ∧ v.cell? ⟨V3.heap.size + 1, 5, none⟩ = some (.slice none 0 0) ∧ v.cell? ⟨V3.heap.size + 1, 6, none⟩ = some (.int .i64 0))) := fun v hv => by
                have k1 : v.heap[w.heap.size]? = some (.cells #[.int .i64 1, .string nm, .int .u32 0, .int .i64 0, .string ⟨#[]⟩, .slice p m c, .int .i64 0] 26) := by rw [hv.block _ (hlt hx1)]; exact hx1
                have k2 : v.heap[D]? = some (.cells #[.int .i64 1, .string ⟨#[98]⟩, .int .u32 0, .int .i64 0, .string ⟨#[]⟩, .slice (some ⟨R, 0, none⟩) 1 1, .int .i64 0] 26) := by rw [hv.block _ (hlt hx2)]; exact hx2
                have k3 : v.heap[M]? = some (.cells #[.int .i64 1, .string ⟨#[99]⟩, .int .u32 0, .int .i64 0, .string ⟨#[]⟩, .slice pv n cv, .int .i64 0] 26) := by rw [hv.block _ (hlt hx3)]; exact hx3
                have k4 : v.heap[E]? = some (.cells #[.int .i64 1, .string ⟨#[99]⟩, .int .u32 0, .int .i64 0, .string ⟨#[]⟩, .slice (some ⟨g, 0, none⟩) (n + 1) cap, .int .i64 0] 26) := by rw [hv.block _ (hlt hx4)]; exact hx4
                have k5 : v.heap[V3.heap.size]? = some (.cells #[.int .i64 1, .string z, .int .u32 0, .int .i64 0, .string ⟨#[]⟩, .slice none 0 0, .int .i64 0] 26) := by rw [hv.block _ (hlt hL1)]; exact hL1
                have k6 : v.heap[V3.heap.size + 1]? = some (.cells #[.int .i64 1, .string (z ++ ⟨#[122]⟩), .int .u32 0, .int .i64 0, .string ⟨#[]⟩, .slice none 0 0, .int .i64 0] 26) := by rw [hv.block _ (hlt hL2)]; exact hL2
                exact ⟨(seven k1).1, (seven k2).1, (seven k3).1, (seven k4).1, (seven k5).1, (seven k6).1⟩
              have HBW : Hid (Below w.heap.size w X) := bel hbw hb8
              clear hb8 hL1 hL2 a1 a2 a3 a4 c1 c2 c3 c4 hbw hnm hx1 hx2 hx3 hx4 hk63 hn4 hz64 HF i2
              obtain ⟨t1, -⟩ := HCL.out X (bel0 X)
              obtain ⟨r0, r1, r2, r3, r4, r5, r6⟩ := t1
              go_wp2_with (first
                | (go_at_call 12; (with_reducible refine (HC1.out _ (bel0 _)).mono ?_); rintro e x1 ⟨rfl, hb1⟩; obtain ⟨-, t2, -⟩ := HCL.out x1 hb1; obtain ⟨b0, b1, b2, b3, b4, b5, b6⟩ := t2)
                | (go_at_call 12; (with_reducible refine (HC2.out _ hb1).mono ?_); rintro e x2 ⟨rfl, hb2⟩; obtain ⟨-, -, t2, -⟩ := HCL.out x2 hb2; obtain ⟨d0, d1, d2, d3, d4, d5, d6⟩ := t2)
                | (go_at_call 12; (with_reducible refine (HC3.out _ hb2).mono ?_); rintro e x3 ⟨rfl, hb3⟩; obtain ⟨-, -, -, t2, -⟩ := HCL.out x3 hb3; obtain ⟨e0, e1, e2, e3, e4, e5, e6⟩ := t2)
                | (go_at_call 12; (with_reducible refine (HC4.out _ hb3).mono ?_); rintro e x4 ⟨rfl, hb4⟩; obtain ⟨-, -, -, -, t2, -⟩ := HCL.out x4 hb4; obtain ⟨f0, f1, f2, f3, f4, f5, f6⟩ := t2)
                | (go_at_call 12; (with_reducible refine (HC5.out _ hb4).mono ?_); rintro e x5 ⟨rfl, hb5⟩; obtain ⟨-, -, -, -, -, t2⟩ := HCL.out x5 hb5; obtain ⟨g0, g1, g2, g3, g4, g5, g6⟩ := t2)
                | (go_at_call 12; (with_reducible refine (HC6.out _ hb5).mono ?_); rintro e x6 ⟨rfl, hb6⟩)
                | (go_at_call 10; (with_reducible refine (HSU.out _ hb6).mono ?_); rintro e x7 ⟨rfl, hb7⟩))
              go_ret
              exact ⟨rfl, bel HBW.out hb7⟩

end Go.Proofs.Ytpidjmgifglmiaa
