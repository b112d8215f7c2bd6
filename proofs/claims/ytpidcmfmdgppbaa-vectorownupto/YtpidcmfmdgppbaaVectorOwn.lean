import Derived.Test.YtpidcmfmdgppbaaVecOwnP
/- The statement VectorOwn: its walk. -/
namespace Go.Proofs.Ytpidcmfmdgppbaa
open Go.RowKit
set_option linter.unusedVariables false

/-- What an append to a whole row leaves. -/
theorem app_out {w : World} {base g s n m k : Nat} {t : TypeId} {v' x : Value} {f : Nat → Value} {news : List Value} (hk : n + m = k) (ho : w.ownsRow base t 1 v' (n + m) (vals f n ++ news)) (hat : v'.ownBlock = some g ∨ v'.ownBlock = some s) (hm : 0 < m) (hl : news.length = m) (hx : news[m - 1]? = some x) :
    ∃ b cap, v' = .slice (some ⟨b, 0, none⟩) k cap ∧ (b = g ∨ b = s) ∧ w.cell? ⟨b, k - 1, none⟩ = some x := by
  subst hk
  rcases ho.2 with ⟨-, hz⟩ | ⟨b, cap, cur, rfl, hb, hg, rest⟩
  · omega
  · refine ⟨b, cap, rfl, ?_, ?_⟩
    · rcases hat with e | e
      · left; simpa [Value.ownBlock] using e
      · right; simpa [Value.ownBlock] using e
    · have e1 : (vals f n ++ news)[n + m - 1]? = some x := by
        rw [List.getElem?_append_right (by rw [vals_len]; omega), vals_len, show n + m - 1 - n = m - 1 by omega]; exact hx
      have e2 := ho.cells (g := b) rfl (n + m - 1) x e1
      by_cases c : n + m - 1 = 0
      · rw [c] at e2 ⊢; simpa [Addr.add] using e2
      · simpa [Addr.add, c] using e2

/-- The rows at hand while they are written over. -/
structure St (gb gc gd ge N n : Nat) (p q : Option Addr) (X : Nat → Int) (v : World) : Prop where
  rb : ∃ f, v.rowIs gb 38 n f
  rc : ∃ f, v.rowIs gc 38 n f
  rd : ∃ f, v.rowIs gd 38 3 f
  re : v.rowIs ge 38 3 (fun _ => .int .u32 1065353216)
  ra : RB N v p n X
  rm : RB N v q n X

theorem St.set {gb gc gd ge N n : Nat} {p q : Option Addr} {X : Nat → Int} {v : World} (h : St gb gc gd ge N n p q X v) (h1 : N ≤ gb) (h2 : gb < gc) (h3 : gc < gd) (h4 : gd < ge) {g : Nat} (hg : g = gb ∨ g = gc ∨ g = gd) (i : Nat) (x : Value) : St gb gc gd ge N n p q X (v.setCell ⟨g, i, none⟩ x) := by
  obtain ⟨⟨f1, r1⟩, ⟨f2, r2⟩, ⟨f3, r3⟩, r4, r5, r6⟩ := h
  rcases hg with rfl | rfl | rfl
  · exact ⟨⟨_, r1.set i x⟩, ⟨_, r2.setOther (by simp; omega) x⟩, ⟨_, r3.setOther (by simp; omega) x⟩, r4.setOther (by simp; omega) x, r5.set (by omega) i x, r6.set (by omega) i x⟩
  · exact ⟨⟨_, r1.setOther (by simp; omega) x⟩, ⟨_, r2.set i x⟩, ⟨_, r3.setOther (by simp; omega) x⟩, r4.setOther (by simp; omega) x, r5.set (by omega) i x, r6.set (by omega) i x⟩
  · exact ⟨⟨_, r1.setOther (by simp; omega) x⟩, ⟨_, r2.setOther (by simp; omega) x⟩, ⟨_, r3.set i x⟩, r4.setOther (by simp; omega) x, r5.set (by omega) i x, r6.set (by omega) i x⟩
theorem St.alloc {gb gc gd ge N n : Nat} {p q : Option Addr} {X : Nat → Int} {v : World} (h : St gb gc gd ge N n p q X v) (o : Obj) : St gb gc gd ge N n p q X (v.alloc o) := by
  obtain ⟨⟨f1, r1⟩, ⟨f2, r2⟩, ⟨f3, r3⟩, r4, r5, r6⟩ := h
  exact ⟨⟨_, r1.alloc o⟩, ⟨_, r2.alloc o⟩, ⟨_, r3.alloc o⟩, r4.alloc o, r5.below (mbel_alloc v o), r6.below (mbel_alloc v o)⟩

structure St2 (gc gd ge N n : Nat) (p q : Option Addr) (X : Nat → Int) (v : World) : Prop where
  rc : ∃ f, v.rowIs gc 38 n f
  rd : ∃ f, v.rowIs gd 38 3 f
  re : v.rowIs ge 38 3 (fun _ => .int .u32 1065353216)
  ra : RB N v p n X
  rm : RB N v q n X

structure St3 (gd ge N n : Nat) (p q : Option Addr) (X : Nat → Int) (v : World) : Prop where
  rd : ∃ f, v.rowIs gd 38 3 f
  re : v.rowIs ge 38 3 (fun _ => .int .u32 1065353216)
  ra : RB N v p n X
  rm : RB N v q n X

structure St4 (ge N n : Nat) (p q : Option Addr) (X : Nat → Int) (v : World) : Prop where
  re : v.rowIs ge 38 3 (fun _ => .int .u32 1065353216)
  ra : RB N v p n X
  rm : RB N v q n X

theorem St.next {gb gc gd ge N n : Nat} {p q : Option Addr} {X : Nat → Int} {v w' : World} {o : Obj} (h : St gb gc gd ge N n p q X v) (h1 : N ≤ gb) (h2 : gb < gc) (h3 : gc < gd) (h4 : gd < ge) (hg : (v.alloc o).grownBy w' (some gb)) : St2 gc gd ge N n p q X w' := by
  obtain ⟨⟨f1, r1⟩, ⟨f2, r2⟩, ⟨f3, r3⟩, r4, r5, r6⟩ := h
  exact ⟨⟨_, row_grown (r2.alloc o) hg (by omega)⟩, ⟨_, row_grown (r3.alloc o) hg (by omega)⟩, row_grown (r4.alloc o) hg (by omega), (r5.below (mbel_alloc v o)).grown hg h1, (r6.below (mbel_alloc v o)).grown hg h1⟩
theorem St2.next {gc gd ge N n : Nat} {p q : Option Addr} {X : Nat → Int} {v w' : World} {o : Obj} (h : St2 gc gd ge N n p q X v) (h1 : N ≤ gc) (h3 : gc < gd) (h4 : gd < ge) (hg : (v.alloc o).grownBy w' (some gc)) : St3 gd ge N n p q X w' := by
  obtain ⟨⟨f2, r2⟩, ⟨f3, r3⟩, r4, r5, r6⟩ := h
  exact ⟨⟨_, row_grown (r3.alloc o) hg (by omega)⟩, row_grown (r4.alloc o) hg (by omega), (r5.below (mbel_alloc v o)).grown hg h1, (r6.below (mbel_alloc v o)).grown hg h1⟩
theorem St3.next {gd ge N n : Nat} {p q : Option Addr} {X : Nat → Int} {v w' : World} {o : Obj} (h : St3 gd ge N n p q X v) (h1 : N ≤ gd) (h4 : gd < ge) (hg : (v.alloc o).grownBy w' (some gd)) : St4 ge N n p q X w' := by
  obtain ⟨⟨f3, r3⟩, r4, r5, r6⟩ := h
  exact ⟨row_grown (r4.alloc o) hg (by omega), (r5.below (mbel_alloc v o)).grown hg h1, (r6.below (mbel_alloc v o)).grown hg h1⟩

theorem cell_grown {v w' : World} {o : Obj} {b k g : Nat} {x : Value} (h : v.cell? ⟨b, k, none⟩ = some x) (hg : (v.alloc o).grownBy w' (some g)) (hne : b ≠ g) : w'.cell? ⟨b, k, none⟩ = some x := by
  have h1 : (v.alloc o).cell? ⟨b, k, none⟩ = some x := ((mbel_alloc v o).cell (mcell_lt h)).trans h
  rw [hg.cell_far _ (mcell_lt h1) (by simp; exact hne)]; exact h1

theorem three_reads (w : World) (t : TypeId) : Reads (w.alloc (.cells #[.int .u32 1065353216, .int .u32 1065353216, .int .u32 1065353216] t)) (some ⟨w.heap.size, 0, none⟩) 3 (fun _ => .int .u32 1065353216) := by
  refine .inr ⟨_, 0, rfl, fun i hi => ?_⟩
  have : i = 0 ∨ i = 1 ∨ i = 2 := by omega
  rcases this with rfl | rfl | rfl <;> simp [go_sem]

theorem lsts_one (w : World) (q : Option Addr) (n c : Nat) (X : Nat → Int) (h : Reads w q n (fun i => .int .u32 (X i))) : Lsts .u32 (w.alloc (.cells #[.slice q n c] 24)) (some ⟨w.heap.size, 0, none⟩) 1 (fun _ => q) (fun _ => n) (fun _ => c) (fun _ => X) :=
  ⟨one_reads w _ _, fun i hi => h.below (mbel_alloc w _)⟩

set_option maxRecDepth 100000 in
set_option maxHeartbeats 8000000 in
theorem walk_VectorOwn (p : Option Addr) (n c : Nat) (X : Nat → Int) (hX : ∀ i, IsP (X i)) (hn : n ≤ 1048576) (h0 : p = none → n = 0 ∧ c = 0) (w : World) (hp : Reads w p n (fun i => .int .u32 (X i))) :
    Calls Try.prog 8 #[.slice p n c] w fun e w' => e = .returned (.bool true) ∧ Below w.heap.size w w' := by
  obtain ⟨i0, hi0, hz0, hz1, hz2⟩ := info_parts info_F
  have HP : Hid (Reads w p n (fun i => .int .u32 (X i)) ∧ (∀ i, IsP (X i)) ∧ (p = none → n = 0 ∧ c = 0)) := ⟨hp, hX, h0⟩
  clear hp hX h0
  go_enter Try.func8, Try.ntmps8
  go_wp2_with (first
    | (go_at_call 37; refine (twin_any _ _ _ X w hn HP.out.2.2 HP.out.1).mono ?_; rintro e w1 ⟨q1, c1, rfl, hR1, hnew1, hz1', hnc1, hb1⟩; have HR1 : Hid (Reads w1 q1 n (fun i => .int .u32 (X i))) := hR1; clear hR1 hnew1 hz1')
    | (go_at_call 10; refine (apply_ok 3 (by decide) w1.heap.size 0 1 1 rfl n (fun _ => q1) (fun _ => n) (fun _ => c1) (fun _ => X) (fun _ => HP.out.2.1) (fun _ => hn) (Nat.le_refl _) rfl _ (lsts_one w1 q1 n c1 X HR1.out)).mono ?_; rintro e w2 ⟨gb, rfl, hgb, hrb, hb2⟩; have HRB : Hid (∃ f, w2.rowIs gb 38 n f) := ⟨_, hrb⟩; have HB2 : Below w1.heap.size w1 w2 := bel (mbel_alloc w1 _) hb2; have hgb1 : w1.heap.size + 1 ≤ gb := (by simpa using hgb); have ltb : gb < w2.heap.size := hrb.lt; clear hrb hgb)
    | (go_at_call 35; refine (vcanon_any _ _ _ X HP.out.2.1 hn w2 (HR1.out.below HB2)).mono ?_; rintro e w3 ⟨gc, rfl, hgc, hrc, hb3⟩; have HRC : Hid (∃ f, w3.rowIs gc 38 n f) := ⟨_, hrc⟩; have ltc : gc < w3.heap.size := hrc.lt; clear hrc)
    | (go_at_call 27; refine (fill_some 3 1065353216 (by unfold IsP; decide) (by omega) w4).mono ?_; rintro e w5 ⟨ge, rfl, hge, hre, hb5⟩; have HRE : Hid (w5.rowIs ge 38 3 (fun _ => .int .u32 1065353216)) := hre; clear hre)
    | (go_at_call 27; refine (fill_some 3 1065353216 (by unfold IsP; decide) (by omega) w3).mono ?_; rintro e w4 ⟨gd, rfl, hgd, hrd, hb4⟩; have HRD : Hid (∃ f, w4.rowIs gd 38 3 f) := ⟨_, hrd⟩; have ltd : gd < w4.heap.size := hrd.lt; clear hrd))
  obtain ⟨N, hN⟩ : ∃ N, N = w1.heap.size := ⟨_, rfl⟩
  have k1 : N ≤ gb := by omega
  have k2 : gb < gc := by omega
  have k3 : gc < gd := by omega
  have k4 : gd < ge := by omega
  have k0 : w.heap.size ≤ N := by rw [hN]; exact hb1.size
  have ST : Hid (St gb gc gd ge N n p q1 X w5) := by
    subst hN
    obtain ⟨fb, rb⟩ := HRB.out
    obtain ⟨fc, rc⟩ := HRC.out
    obtain ⟨fd, rd⟩ := HRD.out
    exact ⟨⟨_, row_below (row_below (row_below rb hb3) hb4) hb5⟩, ⟨_, row_below (row_below rc hb4) hb5⟩, ⟨_, row_below rd hb5⟩, HRE.out, ((RB.of HP.out.1).mono hb1.size).below (bel (bel (bel (bel hb1 HB2) hb3) hb4) hb5), (RB.of HR1.out).below (bel (bel (bel HB2 hb3) hb4) hb5)⟩
  have HB : Below w.heap.size w w5 := bel (bel (bel (bel hb1 HB2) hb3) hb4) hb5
  clear HR1 HRB HRC HRD HRE hb1 hb2 hb3 hb4 hb5 HB2 hN hgb1 ltb hgc ltc hgd ltd hge
  go_loopw [11] (fun iv wr => Below w.heap.size w wr ∧ ∃ i : Nat, i ≤ n ∧ iv = .int .i64 i ∧ Hid (St gb gc gd ge N n p q1 X wr)) (fun iv _ => n - (intOf iv).toNat)
  case atStart => exact ⟨HB, 0, Nat.zero_le _, rfl, ST⟩
  case round =>
    clear HB ST
    obtain ⟨HB, i, hi, rfl, ST⟩ := hrel
    by_cases hlt : i < n
    · obtain ⟨f, r⟩ := ST.out.rb
      have c1 := r.cell (i := i) hlt
      have f1 := r.frozen i
      have i1 : (0 : Int) ≤ (i : Int) := by omega
      have i2 : (i : Int) < (n : Int) := by omega
      clear r
      go_wp2
      go_roundw
      case rel => exact ⟨HB.setCell (by show w.heap.size ≤ gb; omega) _, i + 1, by omega, by go_num, ST.out.set k1 k2 k3 k4 (.inl rfl) i _⟩
      case measure => simp [intOf]; omega
    · have hq : n = i := by omega
      subst hq
      go_wp2
      go_loopw [12] (fun iv wr => Below w.heap.size w wr ∧ ∃ i : Nat, i ≤ n ∧ iv = .int .i64 i ∧ Hid (St gb gc gd ge N n p q1 X wr)) (fun iv _ => n - (intOf iv).toNat)
      case atStart => exact ⟨HB, 0, Nat.zero_le _, rfl, ST⟩
      case round =>
        clear HB ST
        obtain ⟨HB, i, hi, rfl, ST⟩ := hrel
        by_cases hlt : i < n
        · obtain ⟨f, r⟩ := ST.out.rc
          have c1 := r.cell (i := i) hlt
          have f1 := r.frozen i
          have i1 : (0 : Int) ≤ (i : Int) := by omega
          have i2 : (i : Int) < (n : Int) := by omega
          clear r
          go_wp2
          go_roundw
          case rel => exact ⟨HB.setCell (by show w.heap.size ≤ gc; omega) _, i + 1, by omega, by go_num, ST.out.set k1 k2 k3 k4 (.inr (.inl rfl)) i _⟩
          case measure => simp [intOf]; omega
        · have hq : n = i := by omega
          subst hq
          go_wp2
          go_loopw [13] (fun iv wr => Below w.heap.size w wr ∧ ∃ i : Nat, i ≤ 3 ∧ iv = .int .i64 i ∧ Hid (St gb gc gd ge N n p q1 X wr)) (fun iv _ => 3 - (intOf iv).toNat)
          case atStart => exact ⟨HB, 0, Nat.zero_le _, rfl, ST⟩
          case round =>
            clear HB ST
            obtain ⟨HB, i, hi, rfl, ST⟩ := hrel
            by_cases hlt : i < 3
            · obtain ⟨f, r⟩ := ST.out.rd
              have c1 := r.cell (i := i) hlt
              have f1 := r.frozen i
              have i1 : (0 : Int) ≤ (i : Int) := by omega
              have i2 : (i : Int) < 3 := by omega
              clear r
              go_wp2
              go_roundw
              case rel => exact ⟨HB.setCell (by show w.heap.size ≤ gd; omega) _, i + 1, by omega, by go_num, ST.out.set k1 k2 k3 k4 (.inr (.inr rfl)) i _⟩
              case measure => simp [intOf]; omega
            · have hq : i = 3 := by omega
              subst hq
              obtain ⟨kb, hkb⟩ : ∃ kb, n + 4 = kb := ⟨_, rfl⟩
              have HKB : Hid (n + 4 = kb) := hkb
              have kb1 : 4 ≤ kb ∧ kb ≤ 1048580 := by omega
              have v1 : IntKind.i64.wrap ((kb : Int) - 1) = (kb : Int) - 1 := by rw [IntKind.wrap_i64]; omega
              have t1 : ((kb : Int) - 1).toNat = kb - 1 := by omega
              have i1 : (0 : Int) ≤ (kb : Int) - 1 := by omega
              have i2 : (kb : Int) - 1 < (kb : Int) := by omega
              clear hkb
              go_wp2_with (first
                | (at_builtin; obtain ⟨ff, rr⟩ := S7.out.rd; refine wpList_append_own_at _ rfl _ _ 24 rfl gd 38 i0 _ 1 4 Try.underlying24 hi0 hz0 hz1 hz2 rfl (by decide) (.slice (some ⟨gd, 0, none⟩) 3 3) 3 (vals ff 3) rfl (owns_of_row (rr.alloc _) (Nat.le_refl _) (by omega)) ⟨w7.heap.size, 0, none⟩ 2 2 [.int .u32 4, .int .u32 4] rfl rfl (World.news_of_block (cs := #[.int .u32 4, .int .u32 4]) (t := 38) (fr := (0, 0)) (heap_alloc_new w7 _)) (by simp [Value.oneCell']) (by unfold maxLen; omega) (by omega) (by have := rr.lt; simp; omega) ?_; intro v' w8 hown hgrow hnil hat; obtain ⟨b8, cap8, rfl, hb8, hc8⟩ := app_out (k := 5) rfl hown hat (by decide) rfl rfl; have S8 : Hid (St4 ge N n p q1 X w8) := S7.out.next (by omega) k4 hgrow; have HB8 : Below w.heap.size w w8 := Below.grown (HB7.alloc HB7.size _) hgrow (by simp; have := HB7.size; omega) (fun j e => by have e2 : gd = j := (by simpa [Value.ownBlock] using e); omega); have hc68 := cell_grown hc67 hgrow n6.2; have hc78 := cell_grown hc7 hgrow n7; clear hown hgrow hnil hat rr)
                | (at_builtin; obtain ⟨ff, rr⟩ := S6.out.rc; refine wpList_append_own_at _ rfl _ _ 24 rfl gc 38 i0 _ 1 4 Try.underlying24 hi0 hz0 hz1 hz2 rfl (by decide) (.slice (some ⟨gc, 0, none⟩) n n) n (vals ff n) rfl (owns_of_row (rr.alloc _) (Nat.le_refl _) hn) ⟨w6.heap.size, 0, none⟩ 4 4 [.int .u32 9, .int .u32 9, .int .u32 9, .int .u32 9] rfl rfl (World.news_of_block (cs := #[.int .u32 9, .int .u32 9, .int .u32 9, .int .u32 9]) (t := 38) (fr := (0, 0)) (heap_alloc_new w6 _)) (by simp [Value.oneCell']) (by unfold maxLen; omega) (by omega) (by have := rr.lt; simp; omega) ?_; intro v' w7 hown hgrow hnil hat; obtain ⟨b7, cap7, rfl, hb7, hc7⟩ := app_out (k := kb) HKB.out hown hat (by decide) rfl rfl; have S7 : Hid (St3 gd ge N n p q1 X w7) := S6.out.next (by omega) k3 k4 hgrow; have HB7 : Below w.heap.size w w7 := Below.grown (HB6.alloc HB6.size _) hgrow (by simp; have := HB6.size; omega) (fun j e => by have e2 : gc = j := (by simpa [Value.ownBlock] using e); omega); have d7 : gd < w6.heap.size := (S6.out.rd.choose_spec).lt; have n7 : b7 ≠ gd := (by simp at hb7; omega); have hc67 := cell_grown hc6 hgrow n6.1; clear hown hgrow hnil hat rr)
                | (at_builtin; obtain ⟨ff, rr⟩ := ST.out.rb; refine wpList_append_own_at _ rfl _ _ 24 rfl gb 38 i0 _ 1 4 Try.underlying24 hi0 hz0 hz1 hz2 rfl (by decide) (.slice (some ⟨gb, 0, none⟩) n n) n (vals ff n) rfl (owns_of_row (rr.alloc _) (Nat.le_refl _) hn) ⟨wr.heap.size, 0, none⟩ 4 4 [.int .u32 8, .int .u32 8, .int .u32 8, .int .u32 8] rfl rfl (World.news_of_block (cs := #[.int .u32 8, .int .u32 8, .int .u32 8, .int .u32 8]) (t := 38) (fr := (0, 0)) (heap_alloc_new wr _)) (by simp [Value.oneCell']) (by unfold maxLen; omega) (by omega) (by have := rr.lt; simp; omega) ?_; intro v' w6 hown hgrow hnil hat; obtain ⟨b6, cap6, rfl, hb6, hc6⟩ := app_out (k := kb) HKB.out hown hat (by decide) rfl rfl; have S6 : Hid (St2 gc gd ge N n p q1 X w6) := ST.out.next k1 k2 k3 k4 hgrow; have HB6 : Below w.heap.size w w6 := Below.grown (HB.alloc HB.size _) hgrow (by simp; have := HB.size; omega) (fun j e => by have e2 : gb = j := (by simpa [Value.ownBlock] using e); omega); have d6 : gc < wr.heap.size ∧ gd < wr.heap.size := ⟨(ST.out.rc.choose_spec).lt, (ST.out.rd.choose_spec).lt⟩; have n6 : b6 ≠ gc ∧ b6 ≠ gd := (by simp at hb6; omega); clear hown hgrow hnil hat rr)
                | (go_at_call_of 14 (Value.slice p n c); refine (alike_any _ _ _ _ _ X HP.out.2.1 w8 hn S8.out.rm.out S8.out.ra.out).mono ?_; rintro e w9 ⟨rfl, hb9⟩)
                | (go_at_call 14; refine (alike_any _ _ 3 _ _ (fun _ => 1065353216) (fun _ => by unfold IsP; decide) _ (by omega) ((reads_row S8.out.re).below (bel hb9 (mbel_alloc w9 _))) (three_reads w9 _)).mono ?_; rintro e w10 ⟨rfl, hb10⟩; have HC : Below w8.heap.size w8 w10 := bel (bel hb9 (mbel_alloc w9 _)) hb10; have e1 : w10.cell? ⟨b6, kb - 1, none⟩ = some (.int .u32 8) := (HC.cell (mcell_lt hc68)).trans hc68; have e2 : w10.cell? ⟨b7, kb - 1, none⟩ = some (.int .u32 9) := (HC.cell (mcell_lt hc78)).trans hc78; have e3 : w10.cell? ⟨b8, 4, none⟩ = some (.int .u32 4) := (HC.cell (mcell_lt hc8)).trans hc8)
                | (go_at_call 15; refine (sure_any _).mono ?_; rintro e w11 ⟨rfl, hb11⟩))
              go_ret
              exact ⟨rfl, bel (bel HB8 HC) hb11⟩

end Go.Proofs.Ytpidcmfmdgppbaa
