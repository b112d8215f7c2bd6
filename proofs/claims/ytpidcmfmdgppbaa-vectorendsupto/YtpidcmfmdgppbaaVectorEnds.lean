import Derived.Test.YtpidcmfmdgppbaaVecSure
/- The statement VectorEnds: its walk. -/
namespace Go.Proofs.Ytpidcmfmdgppbaa
open Go.RowKit
set_option linter.unusedVariables false

theorem isP_least (X : Nat → Int) (n : Nat) (hX : ∀ i, IsP (X i)) : IsP (fleast X n) := foldx_lo isP_min (by unfold IsP; decide) hX n
theorem isP_most (X : Nat → Int) (n : Nat) (hX : ∀ i, IsP (X i)) : IsP (fmost X n) := foldx_lo isP_max (by unfold IsP; decide) hX n

set_option maxRecDepth 100000 in
set_option maxHeartbeats 4000000 in
theorem ends_some (p : Option Addr) (n c : Nat) (X : Nat → Int) (hX : ∀ i, IsP (X i)) (hn : n ≤ 1048576) (k : Nat) (hk : k ≤ 65536) (x : Int) (hx : IsP x) (w : World) (hp : Reads w p n (fun i => .int .u32 (X i))) :
    Calls Try.prog 6 #[.slice p n c, .int .i64 k, .int .u32 x] w fun e w' => e = .returned (.bool true) ∧ Below w.heap.size w w' := by
  have HP : Hid (Reads w p n (fun i => .int .u32 (X i)) ∧ (∀ i, IsP (X i)) ∧ IsP x) := ⟨hp, hX, hx⟩
  have b1 := isP_least X n hX
  have b2 := isP_most X n hX
  have l1 := b1.1; have l2 := b1.2; have l3 := b2.1; have l4 := b2.2; have l5 := hx.1; have l6 := hx.2
  clear hp hX hx b1 b2
  go_enter Try.func6, Try.ntmps6
  go_wp2_with (first
    | (go_at_call 27; refine (fill_some k x HP.out.2.2 hk w).mono ?_; rintro e w1 ⟨g1, rfl, hg1, hr1, hb1⟩; have HR1 : Hid (w1.rowIs g1 38 k (fun i => .int .u32 (canon x))) := hr1; clear hr1)
    | (go_at_call 28; refine (rfill_some k x HP.out.2.2 hk w1).mono ?_; rintro e w2 ⟨q2, c2, rfl, hR2, hb2⟩; have HR2 : Hid (Reads w2 (some ⟨g1, 0, none⟩) k (fun i => .int .u32 (canon x)) ∧ Reads w2 q2 k (fun i => .int .i64 (canon x))) := ⟨(reads_row HR1.out).below hb2, hR2⟩; have HB2 : Below w.heap.size w w2 := bel hb1 hb2; clear hR2)
    | (go_at_call 29; refine (least_any _ _ _ X HP.out.2.1 hn _ (HP.out.1.below HB2)).mono ?_; rintro e w3 ⟨rfl, hb3⟩; have HB3 : Below w.heap.size w w3 := bel HB2 hb3)
    | (go_at_call 18; refine (ints_any _ _ _ X HP.out.2.1 hn w3 (HP.out.1.below HB3)).mono ?_; rintro e w4 ⟨q4, c4, rfl, hR4, -, hb4⟩; have HR4 : Hid (Reads w4 q4 n (fun i => .int .i64 (X i))) := hR4; clear hR4)
    | (go_at_call 30; refine (rleast_any _ _ _ X HP.out.2.1 hn _ HR4.out).mono ?_; rintro e w5 ⟨rfl, hb5⟩; have HB5 : Below w.heap.size w w5 := bel (bel HB3 hb4) hb5)
    | (go_at_call 31; refine (most_any _ _ _ X HP.out.2.1 hn _ (HP.out.1.below HB5)).mono ?_; rintro e w6 ⟨rfl, hb6⟩; have HB6 : Below w.heap.size w w6 := bel HB5 hb6)
    | (go_at_call 18; refine (ints_any _ _ _ X HP.out.2.1 hn w6 (HP.out.1.below HB6)).mono ?_; rintro e w7 ⟨q7, c7, rfl, hR7, -, hb7⟩; have HR7 : Hid (Reads w7 q7 n (fun i => .int .i64 (X i))) := hR7; clear hR7)
    | (go_at_call 32; refine (rmost_any _ _ _ X HP.out.2.1 hn _ HR7.out).mono ?_; rintro e w8 ⟨rfl, hb8⟩; have HB8 : Below w.heap.size w w8 := bel (bel HB6 hb7) hb8)
    | (go_at_call 33; refine (vfinite_any _ _ _ X HP.out.2.1 hn w8 (HP.out.1.below HB8)).mono ?_; rintro e w9 ⟨rfl, hw9⟩; obtain rfl := hw9.symm)
    | (go_at_call 18; refine (ints_any _ _ _ X HP.out.2.1 hn w8 (HP.out.1.below HB8)).mono ?_; rintro e w10 ⟨q10, c10, rfl, hR10, -, hb10⟩; have HR10 : Hid (Reads w10 q10 n (fun i => .int .i64 (X i))) := hR10; have HB10 : Below w.heap.size w w10 := bel HB8 hb10; clear hR10)
    | (go_at_call 34; refine (rfinites_any _ _ _ X HP.out.2.1 hn w10 HR10.out).mono ?_; rintro e w11 ⟨rfl, hw11⟩; obtain rfl := hw11.symm)
    | (go_at_call 35; refine (vcanon_any _ _ _ X HP.out.2.1 hn w10 (HP.out.1.below HB10)).mono ?_; rintro e w12 ⟨g12, rfl, hg12, hr12, hb12⟩; have HR12 : Hid (w12.rowIs g12 38 n (fun i => .int .u32 (canon (X i)))) := hr12; have HB12 : Below w.heap.size w w12 := bel HB10 hb12; clear hr12)
    | (go_at_call 18; refine (ints_any _ _ _ X HP.out.2.1 hn w12 (HP.out.1.below HB12)).mono ?_; rintro e w13 ⟨q13, c13, rfl, hR13, -, hb13⟩; have HR13 : Hid (Reads w13 q13 n (fun i => .int .i64 (X i))) := hR13; have HB13 : Below w.heap.size w w13 := bel HB12 hb13; clear hR13)
    | (go_at_call 36; refine (rcanons_any _ _ _ X HP.out.2.1 hn w13 HR13.out).mono ?_; rintro e w14 ⟨q14, c14, rfl, hR14, hb14⟩; have HR14 : Hid (Reads w14 q14 n (fun i => .int .i64 (canon (X i)))) := hR14; have HB14 : Below w.heap.size w w14 := bel HB13 hb14; clear hR14)
    | (go_at_call_of 13 (Value.slice (some ⟨g12, 0, none⟩) n n); refine (same5_any _ _ _ _ _ (fun i => canon (X i)) (fun i _ => isP_canon _ (HP.out.2.1 i)) w14 hn ((reads_row HR12.out).below (bel hb13 hb14)) HR14.out).mono ?_; rintro e w15 ⟨rfl, hb15⟩; have HB15 : Below w2.heap.size w2 w15 := bel (bel (bel (bel (bel (bel (bel (bel (bel (bel hb3 hb4) hb5) hb6) hb7) hb8) hb10) hb12) hb13) hb14) hb15)
    | (go_at_call 13; refine (same5_any _ _ _ _ _ (fun i => canon x) (fun i _ => isP_canon _ HP.out.2.2) w15 (by omega) (HR2.out.1.below HB15) (HR2.out.2.below HB15)).mono ?_; rintro e w16 ⟨rfl, hb16⟩)
    | (go_at_call 15; refine (sure_any _).mono ?_; rintro e w17 ⟨rfl, hb17⟩))
  go_ret
  exact ⟨rfl, bel (bel (bel HB2 HB15) hb16) hb17⟩

set_option maxRecDepth 100000 in
set_option maxHeartbeats 4000000 in
theorem ends_none (p : Option Addr) (n c : Nat) (X : Nat → Int) (hX : ∀ i, IsP (X i)) (hn : n ≤ 1048576) (k : Int) (k0 : -9223372036854775808 ≤ k) (k9 : k ≤ 9223372036854775807) (hk : k < 0 ∨ 65536 < k) (x : Int) (hx : IsP x) (w : World) (hp : Reads w p n (fun i => .int .u32 (X i))) :
    Calls Try.prog 6 #[.slice p n c, .int .i64 k, .int .u32 x] w fun e w' => e = .returned (.bool true) ∧ Below w.heap.size w w' := by
  have HP : Hid (Reads w p n (fun i => .int .u32 (X i)) ∧ (∀ i, IsP (X i)) ∧ IsP x ∧ (k < 0 ∨ 65536 < k)) := ⟨hp, hX, hx, hk⟩
  have b1 := isP_least X n hX
  have b2 := isP_most X n hX
  have l1 := b1.1; have l2 := b1.2; have l3 := b2.1; have l4 := b2.2; have l5 := hx.1; have l6 := hx.2
  clear hp hX hx b1 b2 hk
  go_enter Try.func6, Try.ntmps6
  go_wp2_with (first
    | (go_at_call 27; refine (fill_none k x k0 k9 HP.out.2.2.2 w).mono ?_; rintro e w1 ⟨rfl, hb1⟩)
    | (go_at_call 28; refine (rfill_none k x k0 k9 HP.out.2.2.2 w1).mono ?_; rintro e w2 ⟨rfl, hw2⟩; obtain rfl := hw2.symm)
    | (go_at_call 29; refine (least_any _ _ _ X HP.out.2.1 hn _ (HP.out.1.below hb1)).mono ?_; rintro e w3 ⟨rfl, hb3⟩; have HB3 : Below w.heap.size w w3 := bel hb1 hb3)
    | (go_at_call 18; refine (ints_any _ _ _ X HP.out.2.1 hn w3 (HP.out.1.below HB3)).mono ?_; rintro e w4 ⟨q4, c4, rfl, hR4, -, hb4⟩; have HR4 : Hid (Reads w4 q4 n (fun i => .int .i64 (X i))) := hR4; clear hR4)
    | (go_at_call 30; refine (rleast_any _ _ _ X HP.out.2.1 hn _ HR4.out).mono ?_; rintro e w5 ⟨rfl, hb5⟩; have HB5 : Below w.heap.size w w5 := bel (bel HB3 hb4) hb5)
    | (go_at_call 31; refine (most_any _ _ _ X HP.out.2.1 hn _ (HP.out.1.below HB5)).mono ?_; rintro e w6 ⟨rfl, hb6⟩; have HB6 : Below w.heap.size w w6 := bel HB5 hb6)
    | (go_at_call 18; refine (ints_any _ _ _ X HP.out.2.1 hn w6 (HP.out.1.below HB6)).mono ?_; rintro e w7 ⟨q7, c7, rfl, hR7, -, hb7⟩; have HR7 : Hid (Reads w7 q7 n (fun i => .int .i64 (X i))) := hR7; clear hR7)
    | (go_at_call 32; refine (rmost_any _ _ _ X HP.out.2.1 hn _ HR7.out).mono ?_; rintro e w8 ⟨rfl, hb8⟩; have HB8 : Below w.heap.size w w8 := bel (bel HB6 hb7) hb8)
    | (go_at_call 33; refine (vfinite_any _ _ _ X HP.out.2.1 hn w8 (HP.out.1.below HB8)).mono ?_; rintro e w9 ⟨rfl, hw9⟩; obtain rfl := hw9.symm)
    | (go_at_call 18; refine (ints_any _ _ _ X HP.out.2.1 hn w8 (HP.out.1.below HB8)).mono ?_; rintro e w10 ⟨q10, c10, rfl, hR10, -, hb10⟩; have HR10 : Hid (Reads w10 q10 n (fun i => .int .i64 (X i))) := hR10; have HB10 : Below w.heap.size w w10 := bel HB8 hb10; clear hR10)
    | (go_at_call 34; refine (rfinites_any _ _ _ X HP.out.2.1 hn w10 HR10.out).mono ?_; rintro e w11 ⟨rfl, hw11⟩; obtain rfl := hw11.symm)
    | (go_at_call 35; refine (vcanon_any _ _ _ X HP.out.2.1 hn w10 (HP.out.1.below HB10)).mono ?_; rintro e w12 ⟨g12, rfl, hg12, hr12, hb12⟩; have HR12 : Hid (w12.rowIs g12 38 n (fun i => .int .u32 (canon (X i)))) := hr12; have HB12 : Below w.heap.size w w12 := bel HB10 hb12; clear hr12)
    | (go_at_call 18; refine (ints_any _ _ _ X HP.out.2.1 hn w12 (HP.out.1.below HB12)).mono ?_; rintro e w13 ⟨q13, c13, rfl, hR13, -, hb13⟩; have HR13 : Hid (Reads w13 q13 n (fun i => .int .i64 (X i))) := hR13; have HB13 : Below w.heap.size w w13 := bel HB12 hb13; clear hR13)
    | (go_at_call 36; refine (rcanons_any _ _ _ X HP.out.2.1 hn w13 HR13.out).mono ?_; rintro e w14 ⟨q14, c14, rfl, hR14, hb14⟩; have HR14 : Hid (Reads w14 q14 n (fun i => .int .i64 (canon (X i)))) := hR14; have HB14 : Below w.heap.size w w14 := bel HB13 hb14; clear hR14)
    | (go_at_call_of 13 (Value.slice (some ⟨g12, 0, none⟩) n n); refine (same5_any _ _ _ _ _ (fun i => canon (X i)) (fun i _ => isP_canon _ (HP.out.2.1 i)) w14 hn ((reads_row HR12.out).below (bel hb13 hb14)) HR14.out).mono ?_; rintro e w15 ⟨rfl, hb15⟩)
    | (go_at_call 13; refine (same5_any _ _ 0 _ _ (fun i => 0) (fun i _ => isP_0) w15 (by omega) (.inl rfl) (.inl rfl)).mono ?_; rintro e w16 ⟨rfl, hb16⟩)
    | (go_at_call 15; refine (sure_any _).mono ?_; rintro e w17 ⟨rfl, hb17⟩))
  go_ret
  exact ⟨rfl, bel (bel (bel HB14 hb15) hb16) hb17⟩

theorem walk_VectorEnds (p : Option Addr) (n c : Nat) (X : Nat → Int) (hX : ∀ i, IsP (X i)) (hn : n ≤ 1048576) (k : Int) (k0 : -9223372036854775808 ≤ k) (k9 : k ≤ 9223372036854775807) (x : Int) (hx : IsP x) (w : World) (hp : Reads w p n (fun i => .int .u32 (X i))) :
    Calls Try.prog 6 #[.slice p n c, .int .i64 k, .int .u32 x] w fun e w' => e = .returned (.bool true) ∧ Below w.heap.size w w' := by
  by_cases hk : k < 0 ∨ 65536 < k
  · exact ends_none p n c X hX hn k k0 k9 hk x hx w hp
  · obtain ⟨j, rfl⟩ : ∃ j : Nat, k = j := ⟨k.toNat, by omega⟩
    exact ends_some p n c X hX hn j (by omega) x hx w hp

end Go.Proofs.Ytpidcmfmdgppbaa
