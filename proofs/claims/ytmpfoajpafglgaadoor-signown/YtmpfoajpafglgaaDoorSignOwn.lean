import Derived.Test.YtmpfoajpafglgaaDoorSignLaws
/- SignOwn. -/
namespace Go.Proofs.YtmpfoajpafglgaaDoor
open Go.RowKit
set_option linter.unusedVariables false
set_option linter.unusedSimpArgs false

/-- A row of parameters of one's own, whatever it holds. -/
def Some3 (w : World) (B : Nat) (v : Value) (n : Nat) : Prop := ∃ xs, w.ownsRow B 30 3 v n xs
theorem some3_row {w : World} {B g n cap : Nat} (h : Some3 w B (.slice (some ⟨g, 0, none⟩) n cap) n) : B ≤ g ∧ n ≤ cap ∧ cap ≤ maxLen ∧ ∃ f, w.rowIs g 30 (cap * 3) f := by
  obtain ⟨xs, hl, h⟩ := h
  rcases h with ⟨hv, _⟩ | ⟨g', cap', cur, hv, hB, hg, h1, h2, h3, h4⟩
  · cases hv
  · cases hv
    exact ⟨hB, h1, h2, fun i => cur.getD i (.bool false), cur, hg, h3, fun i hi => by simp [Array.getD, h3, hi]⟩
theorem row_some3 {w : World} {B g n cap : Nat} {f : Nat → Value} (h : w.rowIs g 30 (cap * 3) f) (hB : B ≤ g) (h1 : n ≤ cap) (h2 : cap ≤ maxLen) : Some3 w B (.slice (some ⟨g, 0, none⟩) n cap) n := by
  obtain ⟨cur, hg, h3, h4⟩ := h
  exact ⟨cur.toList.take (n * 3), by rw [List.length_take, Array.length_toList, h3]; omega, .inr ⟨g, cap, cur, rfl, hB, hg, h1, h2, h3, rfl⟩⟩

def SpA (w3 : World) (B g n cap : Nat) (w : World) : Prop := Some3 w B (.slice (some ⟨g, 0, none⟩) n cap) n ∧ w3.grownBy w (some g)
theorem SpA.set {w3 w : World} {B g n cap : Nat} (h : SpA w3 B g n cap w) (k : Nat) (v : Value) : SpA w3 B g n cap (w.setCell ⟨g, k, none⟩ v) := by
  obtain ⟨hB, h1, h2, f, hf⟩ := some3_row h.1
  refine ⟨row_some3 (hf.set k v) hB h1 h2, h.2.os, h.2.tape, h.2.output, by simpa using h.2.size, fun j hj hne => ?_⟩
  rw [Go.Deep.blk_setCell_other _ _ _ _ (fun e => hne (by rw [e]))]
  exact h.2.block j hj hne

set_option maxRecDepth 100000 in
set_option maxHeartbeats 4000000 in
theorem walk_SignOwn (s : ByteArray) (hs : s.size ≤ 140737488351232) (w : World) (hLd : Laid w) :
    Calls Tryd.prog 8 #[.string s] w fun e w' => e = .returned (.bool true) ∧ Below w.heap.size w w' := by
  obtain ⟨i0, hi0, hz0, hz1, hz2⟩ := info_parts info_Param
  have S1 := sParse_any s hs
  have S2 := rParse_any s hs
  have hl := parse_len (bs s)
  obtain ⟨r, hr⟩ : ∃ r, parseP (bs s) = r := ⟨_, rfl⟩
  rw [hr] at hl
  simp only [hr] at S1 S2
  clear hr
  obtain ⟨T, E, P⟩ := r
  have hl' : T.length ≤ 140737488351232 := Nat.le_trans hl (by decide)
  obtain ⟨n, hn⟩ : ∃ n, T.length = n := ⟨_, rfl⟩
  have hn2 : n ≤ 64 := by rw [← hn]; exact hl
  have HNT : Hid (T.length = n) := hn
  have H1 : Hid (∀ w : World, Laid w → Calls Tryd.prog 19 #[.string s] w fun e w' => ∃ v, e = .returned (.tuple #[v, .int .i64 E, .int .i64 (P : Int)]) ∧ Own w' w.heap.size v T ∧ Below w.heap.size w w') := S1
  have H2 : Hid (∀ w : World, Calls Tryd.prog 20 #[.string s] w fun e w' => ∃ v, e = .returned (.tuple #[v, .int .i64 E, .int .i64 (P : Int)]) ∧ Own w' w.heap.size v T ∧ Below w.heap.size w w') := S2
  have HL : Hid (T.length ≤ 140737488351232) := hl'
  have HLD : Hid (Laid w) := hLd
  clear S1 S2 hl hl' hn hLd
  go_enter Tryd.func8, Tryd.ntmps8
  go_upto_region 4 with (first
    | (go_at_call 20; refine (H2.out _).mono ?_; rintro e w3 ⟨v3, rfl, ho3, hb3⟩; have R3 : Hid (RdB wB.heap.size w3 v3 T) := ho3.rdB; have RB : Hid (RdB wA.heap.size w3 vB T) := RBB.out.below hb3; clear ho3)
    | ((with_reducible refine (H1.out w HLD.out).mono ?_); rintro e wA ⟨vA, rfl, hoA, hbA⟩; have HA : Hid (Own wA w.heap.size vA T) := hoA; clear hoA)
    | (go_at_call 19; refine (H1.out _ (HLD.out.below hbA)).mono ?_; rintro e wB ⟨vB, rfl, hoB, hbB⟩; have RBB : Hid (RdB wA.heap.size wB vB T) := hoB.rdB; clear hoB))
  have HA3 : Hid (Own w3 w.heap.size vA T) := (HA.out.below hbB).below hb3
  have HLT : Hid (∀ k, vA.ownBlock = some k → w.heap.size ≤ k ∧ k < wA.heap.size) := HA.out.lt
  clear HA
  have hcase := HA3.out.2
  rw [HNT.out] at hcase
  rcases hcase with ⟨rfl, h0⟩ | ⟨g, cap, cur, rfl, hB, hg, h1, h2, h3, h4⟩
  · go_wp2
    go_loopw [12] (fun iv wr => wr = w3 ∧ iv = .int .i64 0) (fun _ _ => 0)
    case atStart => exact ⟨rfl, rfl⟩
    case round =>
      obtain ⟨rfl, rfl⟩ := hrel
      have HROW : Hid (∀ k, (none : Option Nat) = some k → w.heap.size ≤ k ∧ k < wA.heap.size) := fun k e => by cases e
      have HG : Hid (wr.grownBy wr none) := World.grownBy.refl _ _
      obtain ⟨xs, hxs⟩ := (show Some3 wr w.heap.size (.slice none 0 0) 0 from ⟨[], World.ownsRow_nil _ _ _ _⟩)
      have HX : Hid (wr.ownsRow w.heap.size 30 3 (.slice none 0 0) 0 xs) := hxs
      have szr : w.heap.size ≤ wr.heap.size := by have a := hbA.size; have b := hbB.size; have c := hb3.size; have d := HG.out.size; omega
      have HBW : Hid (Below w.heap.size w wr) := Below.grown (bel (bel hbA hbB) hb3) HG.out (by have a := hbA.size; have b := hbB.size; have c := hb3.size; omega) (fun k e => (HROW.out k e).1)
      clear hxs
      have RBG : Hid (RdB wA.heap.size wr vB T) := RB.out.grown HG.out (fun k e => (HROW.out k e).2)
      have R3G : Hid (RdB wB.heap.size wr v3 T) := R3.out.grown HG.out (fun k e => Nat.lt_of_lt_of_le (HROW.out k e).2 hbB.size)
      go_wp2_with (first
        | (at_builtin; refine wpList_append_own_at _ rfl _ _ 22 rfl w.heap.size 30 i0 _ 3 32 Tryd.underlying22 hi0 hz0 hz1 hz2 rfl (by decide) (.slice none 0 0) 0 xs rfl (World.ownsRow.alloc HX.out _) ⟨wr.heap.size, 0, none⟩ 2 2 [.string ⟨#[]⟩, .int .i64 0, .int .i64 0, .string ⟨#[]⟩, .int .i64 0, .int .i64 0] rfl rfl (World.news_of_block (cs := #[.string ⟨#[]⟩, .int .i64 0, .int .i64 0, .string ⟨#[]⟩, .int .i64 0, .int .i64 0]) (t := 30) (fr := (0, 0)) (heap_alloc_new wr _)) (by simp [Value.oneCell']) (by unfold maxLen; omega) (by omega) (by simp; omega) ?_; intro v5 w5 hown5 hgrow5 hnil hat; rcases hown5.2 with ⟨_, h0⟩ | ⟨g5, cap5, cur5, rfl, _⟩; (· exact absurd h0 (by omega)); have HG5 : Hid ((wr.alloc (.cells #[.string ⟨#[]⟩, .int .i64 0, .int .i64 0, .string ⟨#[]⟩, .int .i64 0, .int .i64 0] 30)).grownBy w5 (Value.ownBlock (.slice none 0 0))) := hgrow5; have RB5 : Hid (RdB wA.heap.size w5 vB T) := RBG.out.next HG5.out (fun k e => (HROW.out k e).2); have R35 : Hid (RdB wB.heap.size w5 v3 T) := R3G.out.next HG5.out (fun k e => Nat.lt_of_lt_of_le (HROW.out k e).2 hbB.size); clear hown5 hgrow5 hnil hat)
        | (go_at_call 19; refine (H1.out _ (HLD.out.below (Below.grown (HBW.out.alloc szr _) HG5.out (by simp; omega) (fun k e => (HROW.out k e).1)))).mono ?_; rintro e w6 ⟨v6, rfl, ho6, hb6⟩; have HR6 : Hid (Rd w6 v6 T ∧ Rd w6 vB T ∧ Rd w6 v3 T) := ⟨ho6.rd, (RB5.out.below hb6).rd, (R35.out.below hb6).rd⟩; clear ho6)
        | ((with_reducible refine (same_any vB v3 T HL.out _ HR6.out.2.1 HR6.out.2.2).mono ?_); rintro e w7 ⟨rfl, hb7⟩; have HR7 : Hid (Rd w7 v6 T ∧ Rd w7 v3 T) := ⟨HR6.out.1.below hb7, HR6.out.2.2.below hb7⟩)
        | ((with_reducible refine (same_any v6 v3 T HL.out _ HR7.out.1 HR7.out.2).mono ?_); rintro e w8 ⟨rfl, hb8⟩)
        | (go_at_call 18; refine (works_any _ (HLD.out.below (bel (bel (bel (Below.grown (HBW.out.alloc szr _) HG5.out (by simp; omega) (fun k e => (HROW.out k e).1)) hb6) hb7) hb8))).mono ?_; rintro e w9 ⟨rfl, hb9⟩))
      go_ret
      exact ⟨rfl, bel (bel (bel (bel (Below.grown (HBW.out.alloc szr _) HG5.out (by simp; omega) (fun k e => (HROW.out k e).1)) hb6) hb7) hb8) hb9⟩
  · have HROW : Hid (∀ k, some g = some k → w.heap.size ≤ k ∧ k < wA.heap.size) := HLT.out
    have hsp : SpA w3 w.heap.size g n cap w3 := by
      refine ⟨⟨cellsOf T, ?_⟩, World.grownBy.refl _ _⟩
      have := HA3.out
      unfold Own at this
      rw [HNT.out] at this
      exact this
    have HSP : Hid (SpA w3 w.heap.size g n cap w3) := hsp
    clear hsp h4 h3 hg hB HLT HA3
    go_wp2
    go_loopw [12] (fun iv wr => SpA w3 w.heap.size g n cap wr ∧ ∃ i : Nat, i ≤ n ∧ iv = .int .i64 i) (fun iv _ => n - (intOf iv).toNat)
    case atStart => exact ⟨HSP.out, 0, Nat.zero_le _, rfl⟩
    case round =>
      obtain ⟨hsp, i, hi, rfl⟩ := hrel
      have HS : Hid (SpA w3 w.heap.size g n cap wr) := hsp
      clear hsp
      by_cases hlt : i < n
      · obtain ⟨hB, _, _, f, hf⟩ := some3_row HS.out.1
        have c0 := hf.cell (i := i * 3) (by omega)
        have c1 := hf.cell (i := i * 3 + 1) (by omega)
        have c2 := hf.cell (i := i * 3 + 2) (by omega)
        have f0 := hf.frozen (i * 3)
        have f1 := hf.frozen (i * 3 + 1)
        have f2 := hf.frozen (i * 3 + 2)
        have i1 : (0 : Int) ≤ (i : Int) := by omega
        have i2 : (i : Int) < (n : Int) := by omega
        clear hf
        go_wp2
        go_roundw
        case rel => exact ⟨((HS.out.set _ _).set _ _).set _ _, i + 1, by omega, by go_num⟩
        case measure => simp [intOf]; omega
      · have : i = n := by omega
        subst this
        have HG : Hid (w3.grownBy wr (some g)) := HS.out.2
        obtain ⟨xs, hxs⟩ := HS.out.1
        have HX : Hid (wr.ownsRow w.heap.size 30 3 (.slice (some ⟨g, 0, none⟩) i cap) i xs) := hxs
        have szr : w.heap.size ≤ wr.heap.size := by have a := hbA.size; have b := hbB.size; have c := hb3.size; have d := HG.out.size; omega
        have HBW : Hid (Below w.heap.size w wr) := Below.grown (bel (bel hbA hbB) hb3) HG.out (by have a := hbA.size; have b := hbB.size; have c := hb3.size; omega) (fun k e => (HROW.out k e).1)
        clear hxs
        have RBG : Hid (RdB wA.heap.size wr vB T) := RB.out.grown HG.out (fun k e => (HROW.out k e).2)
        have R3G : Hid (RdB wB.heap.size wr v3 T) := R3.out.grown HG.out (fun k e => Nat.lt_of_lt_of_le (HROW.out k e).2 hbB.size)
        go_wp2_with (first
          | (at_builtin; refine wpList_append_own_at _ rfl _ _ 22 rfl w.heap.size 30 i0 _ 3 32 Tryd.underlying22 hi0 hz0 hz1 hz2 rfl (by decide) (.slice (some ⟨g, 0, none⟩) i cap) i xs rfl (World.ownsRow.alloc HX.out _) ⟨wr.heap.size, 0, none⟩ 2 2 [.string ⟨#[]⟩, .int .i64 0, .int .i64 0, .string ⟨#[]⟩, .int .i64 0, .int .i64 0] rfl rfl (World.news_of_block (cs := #[.string ⟨#[]⟩, .int .i64 0, .int .i64 0, .string ⟨#[]⟩, .int .i64 0, .int .i64 0]) (t := 30) (fr := (0, 0)) (heap_alloc_new wr _)) (by simp [Value.oneCell']) (by unfold maxLen; omega) (by omega) (by simp; omega) ?_; intro v5 w5 hown5 hgrow5 hnil hat; rcases hown5.2 with ⟨_, h0⟩ | ⟨g5, cap5, cur5, rfl, _⟩; (· exact absurd h0 (by omega)); have HG5 : Hid ((wr.alloc (.cells #[.string ⟨#[]⟩, .int .i64 0, .int .i64 0, .string ⟨#[]⟩, .int .i64 0, .int .i64 0] 30)).grownBy w5 (Value.ownBlock (.slice (some ⟨g, 0, none⟩) i cap))) := hgrow5; have RB5 : Hid (RdB wA.heap.size w5 vB T) := RBG.out.next HG5.out (fun k e => (HROW.out k e).2); have R35 : Hid (RdB wB.heap.size w5 v3 T) := R3G.out.next HG5.out (fun k e => Nat.lt_of_lt_of_le (HROW.out k e).2 hbB.size); clear hown5 hgrow5 hnil hat)
          | (go_at_call 19; refine (H1.out _ (HLD.out.below (Below.grown (HBW.out.alloc szr _) HG5.out (by simp; omega) (fun k e => (HROW.out k e).1)))).mono ?_; rintro e w6 ⟨v6, rfl, ho6, hb6⟩; have HR6 : Hid (Rd w6 v6 T ∧ Rd w6 vB T ∧ Rd w6 v3 T) := ⟨ho6.rd, (RB5.out.below hb6).rd, (R35.out.below hb6).rd⟩; clear ho6)
          | ((with_reducible refine (same_any vB v3 T HL.out _ HR6.out.2.1 HR6.out.2.2).mono ?_); rintro e w7 ⟨rfl, hb7⟩; have HR7 : Hid (Rd w7 v6 T ∧ Rd w7 v3 T) := ⟨HR6.out.1.below hb7, HR6.out.2.2.below hb7⟩)
          | ((with_reducible refine (same_any v6 v3 T HL.out _ HR7.out.1 HR7.out.2).mono ?_); rintro e w8 ⟨rfl, hb8⟩)
          | (go_at_call 18; refine (works_any _ (HLD.out.below (bel (bel (bel (Below.grown (HBW.out.alloc szr _) HG5.out (by simp; omega) (fun k e => (HROW.out k e).1)) hb6) hb7) hb8))).mono ?_; rintro e w9 ⟨rfl, hb9⟩))
        go_ret
        exact ⟨rfl, bel (bel (bel (bel (Below.grown (HBW.out.alloc szr _) HG5.out (by simp; omega) (fun k e => (HROW.out k e).1)) hb6) hb7) hb8) hb9⟩

end Go.Proofs.YtmpfoajpafglgaaDoor
