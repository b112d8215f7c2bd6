import Derived.Test.YtjbcafkpcgehdaaLists4R
import Derived.Test.YtjbcafkpcgehdaaPairLaws
import Derived.Maps.AppendAt
import Derived.Laws.AppendOwnNone
/- The statement PairLists: its walk. -/
namespace Go.Proofs.Ytjbcafkpcgehdaa
open Go.RowKit
set_option linter.unusedVariables false

theorem flat_n (p : Option Addr) (n m c : Nat) (hm : n = 2 * m) (X : Nat → Int) (w : World) (hn : n ≤ 35184372088832) (hp : Reads w p n (fun i => .int .u32 (X i))) :
    Calls Try.prog 28 #[.slice p m c] w fun e w' => ∃ g, e = .returned (.slice (some ⟨g, 0, none⟩) n n) ∧ w.heap.size ≤ g ∧ w'.rowIs g 23 n (fun i => .int .u32 (X i)) ∧ Below w.heap.size w w' := by
  subst hm; exact flat_any p m c X w (by omega) hp

theorem row_dn {w : World} {g : Nat} {t : TypeId} {n : Nat} {X : Nat → Value} (h : w.rowIs g t n X) (j : Nat) : (w.drewN j).rowIs g t n X := h

theorem news_at {w : World} {b o : Nat} {n : Nat} {X : Nat → Int} (h : ∀ i, i < n → w.cell? ⟨b, o + i, none⟩ = some (.int .u32 (X i))) : ∀ j u, (nums X n)[j]? = some u → w.cell? ((⟨b, o, none⟩ : Addr).add j) = some u := by
  intro j u hu
  have hj : j < n := by
    rcases Nat.lt_or_ge j n with c | c
    · exact c
    · rw [List.getElem?_eq_none (by rw [nums_len]; exact c)] at hu; cases hu
  rw [nums_at X n j hj] at hu
  cases hu
  have := h j hj
  by_cases c : j = 0
  · subst c; simpa [Addr.add] using this
  · simpa [Addr.add, c] using this

set_option maxRecDepth 100000 in
set_option maxHeartbeats 4000000 in
theorem walk_lists (p : Option Addr) (n c : Nat) (X : Nat → Int) (w : World) (hn : n ≤ 35184372088832) (h0 : p = none → n = 0 ∧ c = 0) (hp : Reads w p n (fun i => .int .u32 (X i))) :
    Calls Try.prog 6 #[.slice p n c] w fun e w' => e = .returned (.bool true) ∧ Below w.heap.size w w' := by
  obtain ⟨i0, hi0, hz0, hz1, hz2⟩ := info_parts info_F
  go_enter Try.func6, Try.ntmps6
  go_upto_region 2 with fail
  go_cut [3] (fun mv wx => Below w.heap.size w wx ∧ ∃ q cap, mv = .slice q n cap ∧ Reads wx q n (fun i => .int .u32 (X i)))
  case first =>
    cases p with
    | none =>
      obtain ⟨rfl, rfl⟩ := h0 rfl
      clear hp
      go_wp2_with (at_builtin; refine wpList_append_own_none rfl _ _ 36 rfl w.heap.size 23 i0 1 Try.underlying36 hi0 (.slice none 0 0) 0 [] rfl (World.ownsRow_nil _ _ _ _) rfl ?_)
      go_meet
      exact ⟨bel0 w, none, 0, rfl, .inl rfl⟩
    | some a =>
      have HC : Hid (∀ j u, (nums X n)[j]? = some u → w.cell? (a.add j) = some u) := by
        rcases hp with hp | ⟨b, o, e, hp⟩
        · subst hp; intro j u hu; simp [nums] at hu
        · cases e; exact news_at hp
      clear hp h0
      go_wp2_with (at_builtin; refine wpList_append_own_at w rfl _ _ 36 rfl w.heap.size 23 i0 _ 1 4 Try.underlying36 hi0 hz0 hz1 hz2 rfl (by decide) (.slice none 0 0) 0 [] rfl (World.ownsRow_nil _ _ _ _) a n c (nums X n) rfl (by rw [nums_len, Nat.mul_one]) HC.out (by intro u hu; simp [nums] at hu; obtain ⟨i, -, rfl⟩ := hu; rfl) (by unfold maxLen; omega) (by omega) (Nat.le_refl _) ?_; intro v' w1 hown hgrow _ hat)
      go_meet
      simp only [Nat.zero_add, List.nil_append] at hown
      obtain ⟨q, cap, e, hR⟩ := own_form (by decide) hown (fun i => .int .u32 (X i)) (fun i hi => nums_at X _ i (by rw [nums_len] at hi; exact hi))
      rw [nums_len] at hR
      exact ⟨Below.grown (bel0 w) hgrow (Nat.le_refl _) (fun k e => by simp [Value.ownBlock] at e), q, cap, e, hR⟩
  case rest =>
    obtain ⟨hb1, q, cap, rfl, hmine⟩ := hcut
    have hl : Reads wc p n (fun i => .int .u32 (X i)) := hp.below hb1
    clear hp h0 hi0 hz0 hz1 hz2
    rcases Nat.mod_two_eq_zero_or_one n with ho | ho
    · obtain ⟨m, HM⟩ : ∃ m, Hid (n = 2 * m) := ⟨n / 2, show n = 2 * (n / 2) by omega⟩
      clear ho
      have HL : Hid (Reads wc p n (fun i => .int .u32 (X i))) := hl
      have HN : Hid (Reads wc q n (fun i => .int .u32 (X i))) := hmine
      clear hl hmine
      go_wp2_with (first
        | (go_at_call 26; refine (pairs_even _ _ m _ X _ hn HM.out HN.out).mono ?_; rintro e w2 ⟨ga, rfl, hga, hrow, hb2⟩; have HA : Hid (w2.rowIs ga 25 n (fun i => .int .u32 (X i))) := hrow; clear hrow)
        | (go_at_call 27; refine (rpairs_even _ _ m _ X _ hn HM.out (HL.out.below hb2)).mono ?_; rintro e w3 ⟨qb, cb, rfl, hR3, hb3⟩; have HR : Hid (Reads w3 qb n (fun i => .int .u32 (X i))) := hR3; clear hR3))
      go_loopw [8] (fun iv wr => (∃ j, wr = w3.drewN j) ∧ ∃ k : Nat, k ≤ m ∧ iv = .int .i64 k) (fun iv _ => m - (intOf iv).toNat)
      case atStart => exact ⟨⟨0, rfl⟩, 0, Nat.zero_le _, rfl⟩
      case round =>
        obtain ⟨⟨j, rfl⟩, k, hk, rfl⟩ := hrel
        by_cases hlt : k < m
        · have hn2 : k * 2 + 1 < n := by have := HM.out; omega
          have hR := HR.out
          rcases hR with hR | ⟨bb, ob, rfl, hR⟩
          · omega
          have r3 : w3.rowIs ga 25 n (fun i => .int .u32 (X i)) := row_below HA.out hb3
          have h1 := r3.cell (i := k * 2) (by omega)
          have h2 := r3.cell (i := k * 2 + 1) (by omega)
          have h3 := hR (k * 2) (by omega)
          have h4 : w3.cell? ⟨bb, ob + k * 2 + 1, none⟩ = some (.int .u32 (X (k * 2 + 1))) := hR (k * 2 + 1) (by omega)
          have i1 : (0 : Int) ≤ (k : Int) := by omega
          have i2 : (k : Int) < (m : Int) := by omega
          clear hR r3
          go_wp2
          go_quiet (fail)
          go_wp2
          go_roundw
          case rel => exact ⟨⟨_, rfl⟩, k + 1, by omega, by go_num⟩
          case measure => simp [intOf]; omega
        · have : k = m := by omega
          subst this
          have r3 : w3.rowIs ga 25 n (fun i => .int .u32 (X i)) := row_below HA.out hb3
          have HA3 : Hid (w3.rowIs ga 25 n (fun i => .int .u32 (X i))) := r3
          clear r3 HA HR
          go_wp2_with (first
            | (go_at_call 28; refine (flat_n _ n _ _ HM.out X _ hn (reads_row HA4.out)).mono ?_; rintro e w5 ⟨gd, rfl, hgd, hrd, hb5⟩; have HD : Hid (w5.rowIs gd 23 n (fun i => .int .u32 (X i))) := hrd; have HC5 : Hid (w5.rowIs gc 23 n (fun i => .int .u32 (X i))) := row_below HC.out hb5; have HA5 : Hid (w5.rowIs ga 25 n (fun i => .int .u32 (X i))) := row_below HA4.out hb5; have HB5 : Below wc.heap.size wc w5 := bel (bel (bel (bel hb2 hb3) (mbel_dn w3 j)) hb4) hb5; clear hrd)
            | (go_at_call 28; refine (flat_n _ n _ _ HM.out X _ hn (reads_row (row_dn HA3.out j))).mono ?_; rintro e w4 ⟨gc, rfl, hgc, hrc, hb4⟩; have HC : Hid (w4.rowIs gc 23 n (fun i => .int .u32 (X i))) := hrc; have HA4 : Hid (w4.rowIs ga 25 n (fun i => .int .u32 (X i))) := row_below (row_dn HA3.out j) hb4; clear hrc)
            | (go_at_call 29; refine (same_any _ _ n _ _ X _ hn (reads_row HC5.out) (HL.out.below HB5)).mono ?_; rintro e w6 ⟨rfl, j6, rfl⟩))
          have lA := HA3.out.lt
          have lC := HC.out.lt
          have gC : w3.heap.size ≤ gc := hgc
          have nac : ga ≠ gc := by omega
          have nad : ga ≠ gd := by have := hb4.size; have : (w3.drewN j).heap.size = w3.heap.size := rfl; omega
          have ncd : gc ≠ gd := by omega
          have gA : wc.heap.size ≤ ga := hga
          have gC2 : wc.heap.size ≤ gc := by omega
          have AS : Hid (Below wc.heap.size wc (w5.drewN j6) ∧ (∃ f, (w5.drewN j6).rowIs ga 25 n f) ∧ (w5.drewN j6).rowIs gc 23 n (fun i => .int .u32 (X i)) ∧ (w5.drewN j6).rowIs gd 23 n (fun i => .int .u32 (X i))) :=
            ⟨bel HB5 (mbel_dn w5 j6), ⟨_, row_dn HA5.out j6⟩, row_dn HC5.out j6, row_dn HD.out j6⟩
          clear HA3 HA4 HA5 HC HC5 HD HB5 hb2 hb3 hb4 hb5 hga hgc hgd
          go_loopw [11] (fun iv wr => ∃ i : Nat, i ≤ k ∧ iv = .int .i64 i ∧ Hid (Below wc.heap.size wc wr ∧ (∃ f, wr.rowIs ga 25 n f) ∧ wr.rowIs gc 23 n (fun i => .int .u32 (X i)) ∧ wr.rowIs gd 23 n (fun i => .int .u32 (X i)))) (fun iv _ => k - (intOf iv).toNat)
          case atStart => exact ⟨0, Nat.zero_le _, rfl, AS⟩
          case round =>
            clear AS
            obtain ⟨i, hi, rfl, hA⟩ := hrel
            by_cases hlt2 : i < k
            · have hn2 : i * 2 + 1 < n := by have := HM.out; omega
              obtain ⟨B2, ⟨f, r1⟩, r2, r3⟩ := hA.out
              have c1 := r1.cell (i := i * 2) (by omega)
              have c2 := r1.cell (i := i * 2 + 1) (by omega)
              have f1 := r1.frozen (i * 2)
              have f2 := r1.frozen (i * 2 + 1)
              have i1 : (0 : Int) ≤ (i : Int) := by omega
              have i2 : (i : Int) < (k : Int) := by omega
              clear B2 r1 r2 r3
              go_wp2
              go_roundw
              case rel =>
                obtain ⟨B2, ⟨f, r1⟩, r2, r3⟩ := hA.out
                exact ⟨i + 1, by omega, by go_num, (B2.setCell gA _).setCell gA _, ⟨_, (r1.set (i * 2) _).set (i * 2 + 1) _⟩, (r2.setOther (fun e => nac e.symm) _).setOther (fun e => nac e.symm) _, (r3.setOther (fun e => nad e.symm) _).setOther (fun e => nad e.symm) _⟩
              case measure => simp [intOf]; omega
            · have : i = k := by omega
              subst this
              go_wp2
              go_loopw [12] (fun iv wr => ∃ i : Nat, i ≤ n ∧ iv = .int .i64 i ∧ Hid (Below wc.heap.size wc wr ∧ (∃ f, wr.rowIs gc 23 n f) ∧ wr.rowIs gd 23 n (fun i => .int .u32 (X i)))) (fun iv _ => n - (intOf iv).toNat)
              case atStart => exact ⟨0, Nat.zero_le _, rfl, hA.out.1, ⟨_, hA.out.2.2.1⟩, hA.out.2.2.2⟩
              case round =>
                clear hA
                obtain ⟨l, hl, rfl, hA⟩ := hrel
                by_cases hlt3 : l < n
                · obtain ⟨B2, ⟨f, r1⟩, r3⟩ := hA.out
                  have c1 := r1.cell (i := l) hlt3
                  have f1 := r1.frozen l
                  have i1 : (0 : Int) ≤ (l : Int) := by omega
                  have i2 : (l : Int) < (n : Int) := by omega
                  clear B2 r1 r3
                  go_wp2
                  go_roundw
                  case rel =>
                    obtain ⟨B2, ⟨f, r1⟩, r3⟩ := hA.out
                    exact ⟨l + 1, by omega, by go_num, B2.setCell gC2 _, ⟨_, r1.set l _⟩, r3.setOther (fun e => ncd e.symm) _⟩
                  case measure => simp [intOf]; omega
                · have : l = n := by omega
                  subst this
                  go_wp2_with (first
                    | (go_at_call_of 29 (Value.slice (some ⟨gd, 0, none⟩) l l); refine (same_any _ _ l _ _ X _ hn (reads_row hA.out.2.2) (HL.out.below hA.out.1)).mono ?_; rintro e w6 ⟨rfl, j6, rfl⟩)
                    | (go_at_call 29; refine (same_any _ _ l _ _ X _ hn (HN.out.below (bel hA.out.1 (mbel_dn _ _))) (HL.out.below (bel hA.out.1 (mbel_dn _ _)))).mono ?_; rintro e w6 ⟨rfl, j7, rfl⟩)
                    | (go_at_call 19; refine (pworks_any _).mono ?_; rintro e w7 ⟨rfl, hb⟩))
                  go_ret
                  exact ⟨rfl, bel (bel hb1 (bel hA.out.1 (mbel_dn _ _))) hb⟩
    · have HL : Hid (Reads wc p n (fun i => .int .u32 (X i))) := hl
      clear hl hmine
      go_wp2_with (first
        | (go_at_call 26; refine (pairs_odd _ _ _ _ hn ho).mono ?_; rintro e w2 ⟨rfl, hw'⟩; obtain rfl := hw'.symm)
        | (go_at_call 27; refine (rpairs_odd _ _ _ _ hn ho).mono ?_; rintro e w3 ⟨rfl, hw'⟩; obtain rfl := hw'.symm))
      go_loopw [8] (fun iv wr => iv = .int .i64 0 ∧ wr = wc) (fun _ _ => 0)
      case atStart => exact ⟨rfl, rfl⟩
      case round =>
        obtain ⟨rfl, rfl⟩ := hrel
        go_wp2_with (go_at_call 19; refine (pworks_any _).mono ?_; rintro e w3 ⟨rfl, hb⟩)
        go_ret
        exact ⟨rfl, bel hb1 hb⟩

theorem walk_PairLists (p : Option Addr) (n c : Nat) (X : Nat → Int) (hX : ∀ i, 0 ≤ X i ∧ X i ≤ 4294967295) (hn : n ≤ 35184372087808) (h0 : p = none → n = 0 ∧ c = 0) (w : World) (hp : Reads w p n (fun i => .int .u32 (X i))) :
    Calls Try.prog 6 #[.slice p n c] w fun e w' => e = .returned (.bool true) ∧ Below w.heap.size w w' := walk_lists p n c X w (by omega) h0 hp

end Go.Proofs.Ytjbcafkpcgehdaa
