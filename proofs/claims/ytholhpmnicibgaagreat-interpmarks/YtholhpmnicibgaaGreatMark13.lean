import Derived.Test.YtholhpmnicibgaaGreatMark12
import Derived.Shelf.Abstract
import Derived.Maps.AppendAt
import Derived.Laws.AppendOwnNone
import Derived.Deep.RegionHeld3
import Derived.Shelf.Small.Bits
import Derived.Test.YtholhpmnicibgaaGreatMark1
/- Package vector: its sums. -/
namespace Go.Proofs.YtholhpmnicibgaaGreat
open Go.RowKit
set_option linter.unusedVariables false

def EntV (k : Nat) : Prop := ∀ (args : Array Value) (w : World), (callFunc k args).run Tryz.prog w = .ok (.enter k args) w

set_option maxRecDepth 100000 in
set_option maxHeartbeats 1000000 in
theorem gather_any (k : Nat) (hen : EntV k) (f : Int → Int → Int) (hf : ∀ a b, IsP a → IsP b → IsP (f a b))
    (hk : ∀ a b (v : World), IsP a → IsP b → Calls Tryz.prog k #[.int .u32 a, .int .u32 b] v fun e v' => e = .returned (.int .u32 (f a b)) ∧ Below v.heap.size v v')
    (s : Int) (hs : IsP s) (p : Option Addr) (n c : Nat) (X : Nat → Int) (hX : ∀ i, IsP (X i)) (hn : n ≤ 1048576) (w : World) (hp : Reads w p n (fun i => .int .u32 (X i))) :
    Calls Tryz.prog 144 #[.int .u32 s, .slice p n c, .func (.func k) #[] #[]] w fun e w' => e = .returned (.int .u32 (foldx f s X n)) ∧ Below w.heap.size w w' := by
  unfold EntV at hen
  go_enter Tryz.func144, Tryz.ntmps144
  go_wp2
  go_loopw [0, 11] (fun sv iv wr => Below w.heap.size w wr ∧ ∃ j : Nat, j ≤ n ∧ iv = .int .i64 j ∧ sv = .int .u32 (foldx f s X j)) (fun _ iv _ => n - (intOf iv).toNat)
  case atStart => exact ⟨bel0V w, 0, Nat.zero_le _, rfl, rfl⟩
  case round =>
    obtain ⟨hb, j, hj, rfl, rfl⟩ := hrel
    by_cases hlt : j < n
    · rcases hp with hp | ⟨b, o, rfl, hp⟩
      · omega
      have hbl : b < w.heap.size := mcell_ltV (hp j hlt)
      have h1 : wr.cell? ⟨b, o + j, none⟩ = some (.int .u32 (X j)) := (hb.cell hbl).trans (hp j hlt)
      have i1 : (0 : Int) ≤ (j : Int) := by omega
      have i2 : (j : Int) < (n : Int) := by omega
      have hk1 := hk (foldx f s X j) (X j) wr (foldx_lo hf hs hX j) (hX j)
      have HK : Hid (Calls Tryz.prog k #[.int .u32 (foldx f s X j), .int .u32 (X j)] wr fun e v' => e = .returned (.int .u32 (foldx f s X (j + 1))) ∧ Below wr.heap.size wr v') := hk1
      clear hp hk hk1
      go_wp2_with ((with_reducible refine HK.out.mono ?_); rintro e w1 ⟨rfl, hb1⟩)
      go_roundw
      case rel => exact ⟨belV hb hb1, j + 1, by omega, by go_num, rfl⟩
      case measure => simp [intOf]; omega
    · have : j = n := by omega
      subst this
      clear hp hk
      go_wp2
      go_ret
      exact ⟨rfl, hb⟩

set_option maxHeartbeats 400000 in
theorem sum_any (p : Option Addr) (n c : Nat) (X : Nat → Int) (hX : ∀ i, IsP (X i)) (hn : n ≤ 1048576) (w : World) (hp : Reads w p n (fun i => .int .u32 (X i))) :
    Calls Tryz.prog 114 #[.slice p n c] w fun e w' => e = .returned (.int .u32 (fsum X n)) ∧ Below w.heap.size w w' := by
  go_enter Tryz.func114, Tryz.ntmps114
  go_wp2_with (go_at_call 144; refine (gather_any 145 (enters_of Tryz.func145 (by kernel_rfl) rfl) fadd (fun _ _ _ _ => isP_add _ _) (fun a b v ha hb => add_any a ha.1 ha.2 b hb.1 hb.2 v) 0 isP_0 _ _ _ X hX hn _ hp).mono ?_; rintro e w1 ⟨rfl, hb1⟩)
  go_ret
  exact ⟨rfl, hb1⟩

set_option maxHeartbeats 400000 in
theorem least_any (p : Option Addr) (n c : Nat) (X : Nat → Int) (hX : ∀ i, IsP (X i)) (hn : n ≤ 1048576) (w : World) (hp : Reads w p n (fun i => .int .u32 (X i))) :
    Calls Tryz.prog 115 #[.slice p n c] w fun e w' => e = .returned (.int .u32 (fleast X n)) ∧ Below w.heap.size w w' := by
  go_enter Tryz.func115, Tryz.ntmps115
  go_wp2_with (go_at_call 144; refine (gather_any 146 (enters_of Tryz.func146 (by kernel_rfl) rfl) fmin isP_min (fun a b v ha hb => min_any a ha.1 ha.2 b hb.1 hb.2 v) 2139095040 (by unfold IsP; decide) _ _ _ X hX hn _ hp).mono ?_; rintro e w1 ⟨rfl, hb1⟩)
  go_ret
  exact ⟨rfl, hb1⟩

set_option maxRecDepth 100000 in
set_option maxHeartbeats 1000000 in
theorem elements_any (k : Nat) (hen : EntV k) (cap : Array Value) (n : Nat) (Y : Nat → Int) (hn : n ≤ 1048576) (w : World)
    (hk : ∀ (i : Nat) (v : World), i < n → Below w.heap.size w v → Calls Tryz.prog k (#[.int .i64 i] ++ cap) v fun e v' => e = .returned (.int .u32 (Y i)) ∧ Below v.heap.size v v') :
    Calls Tryz.prog 102 #[.int .i64 n, .func (.func k) #[] cap] w fun e w' => ∃ g, e = .returned (.slice (some ⟨g, 0, none⟩) n n) ∧ w.heap.size ≤ g ∧ w'.rowIs g 43 n (fun i => .int .u32 (Y i)) ∧ Below w.heap.size w w' := by
  have hmk := make_F n (by omega)
  unfold EntV at hen
  go_enter Tryz.func102, Tryz.ntmps102
  go_wp2
  go_loopw [11] (fun iv wr => Below w.heap.size w wr ∧ ∃ j : Nat, j ≤ n ∧ iv = .int .i64 j ∧ Hid (wr.rowIs w.heap.size 43 n (fun i => .int .u32 (if i < j then Y i else 0)))) (fun iv _ => n - (intOf iv).toNat)
  case atStart => exact ⟨by go_grown, 0, Nat.zero_le _, rfl, (World.rowIs_made w _ n _).congr fun i hi => by simp⟩
  case round =>
    obtain ⟨hb, j, hj, rfl, hrow⟩ := hrel
    clear hmk
    by_cases hlt : j < n
    · have HK := hk j wr hlt hb
      have HKH : Hid (Calls Tryz.prog k (#[.int .i64 j] ++ cap) wr fun e v' => e = .returned (.int .u32 (Y j)) ∧ Below wr.heap.size wr v') := HK
      have i1 : (0 : Int) ≤ (j : Int) := by omega
      have i2 : (j : Int) < (n : Int) := by omega
      clear hk HK
      go_wp2_with ((with_reducible refine HKH.out.mono ?_); (rintro e w1 ⟨rfl, hb1⟩; have r1 := row_below hrow.out hb1; have c1 := r1.cell (i := j) hlt; have f1 := r1.frozen j; have HR : Hid (w1.rowIs w.heap.size 43 n (fun i => .int .u32 (if i < j then Y i else 0))) := r1; clear r1))
      go_roundw
      case rel => exact ⟨(belV hb hb1).setCell (Nat.le_refl _) _, j + 1, by omega, by go_num, (HR.out.set j _).congr fun i hi => by by_cases e : i = j <;> by_cases e2 : i < j <;> simp [e, e2] <;> omega⟩
      case measure => simp [intOf]; omega
    · have : j = n := by omega
      subst this
      clear hk
      go_wp2
      go_ret
      exact ⟨_, rfl, Nat.le_refl _, hrow.out.congr fun i hi => by rw [if_pos hi], hb⟩

end Go.Proofs.YtholhpmnicibgaaGreat
/- The helpers of layer 5's statements: ints, lists, same, twin, twins, alike. -/
namespace Go.Proofs.YtholhpmnicibgaaGreat
open Go.RowKit
set_option linter.unusedVariables false

def vals (X : Nat → Value) (n : Nat) : List Value := (List.range n).map X
end Go.Proofs.YtholhpmnicibgaaGreat
/- Package vector: Finite, Canon, Fill, Norm. -/
namespace Go.Proofs.YtholhpmnicibgaaGreat
open Go.RowKit
set_option linter.unusedVariables false

set_option maxHeartbeats 400000 in
theorem fill1_any (x : Int) (hx : IsP x) (i g : Nat) (w : World) (hg : w.cell? ⟨g, 0, none⟩ = some (.int .u32 x)) :
    Calls Tryz.prog 103 #[.int .i64 i, .pointer (some ⟨g, 0, none⟩)] w fun e w' => e = .returned (.int .u32 (canon x)) ∧ Below w.heap.size w w' := by
  go_enter Tryz.func103, Tryz.ntmps103
  go_wp2_with (go_at_call 104; refine (canonV_any _ hx.1 hx.2 _).mono ?_; rintro e w' ⟨rfl, hw'⟩; obtain rfl := hw'.symm)
  go_ret
  exact ⟨rfl, bel0V _⟩

set_option maxRecDepth 100000 in
set_option maxHeartbeats 400000 in
theorem fill_some (n : Nat) (x : Int) (hx : IsP x) (hn : n ≤ 65536) (w : World) :
    Calls Tryz.prog 61 #[.int .i64 n, .int .u32 x] w fun e w' => ∃ g, e = .returned (.tuple #[.slice (some ⟨g, 0, none⟩) n n, .int .i64 0]) ∧ w.heap.size ≤ g ∧ w'.rowIs g 43 n (fun i => .int .u32 (canon x)) ∧ Below w.heap.size w w' := by
  have h1 : ¬ ((n : Int) < 0) := by omega
  have h2 : (n : Int) ≤ 65536 := by omega
  go_enter Tryz.func61, Tryz.ntmps61
  go_wp2_with (go_at_call 102; refine (elements_any 103 (enters_of Tryz.func103 (by kernel_rfl) rfl) #[.pointer (some ⟨w.heap.size, 0, none⟩)] n (fun _ => canon x) (by omega) _ (fun i v hi hv => fill1_any x hx i w.heap.size v ((hv.cell (by simp)).trans (by simp)))).mono ?_; rintro e w1 ⟨g, rfl, hg, hr, hb1⟩; have HR : Hid (w1.rowIs g 43 n (fun i => .int .u32 (canon x))) := hr; clear hr)
  go_returns
  exact ⟨_, rfl, by have : w.heap.size + 1 ≤ g := by simpa using hg
                    omega, HR.out, belV (mbel_alloc w _) hb1⟩

end Go.Proofs.YtholhpmnicibgaaGreat
/- Layer 5: the document's answers: sums and ends. -/
namespace Go.Proofs.YtholhpmnicibgaaGreat
open Go.RowKit
set_option linter.unusedVariables false

end Go.Proofs.YtholhpmnicibgaaGreat
/- Lists of lists: lists, twins; Norm. -/
namespace Go.Proofs.YtholhpmnicibgaaGreat
open Go.RowKit
set_option linter.unusedVariables false

/-- A list of lists of numbers, and where they lie. -/
structure Lsts (k : IntKind) (w : World) (q : Option Addr) (m : Nat) (P : Nat → Option Addr) (l c : Nat → Nat) (X : Nat → Nat → Int) : Prop where
  heads : Reads w q m (fun i => .slice (P i) (l i) (c i))
  parts : ∀ i, i < m → Reads w (P i) (l i) (fun j => .int k (X i j))
theorem Lsts.below {k : IntKind} {w w' : World} {q : Option Addr} {m : Nat} {P : Nat → Option Addr} {l c : Nat → Nat} {X : Nat → Nat → Int} (h : Lsts k w q m P l c X) (b : Below w.heap.size w w') : Lsts k w' q m P l c X :=
  ⟨h.heads.below b, fun i hi => (h.parts i hi).below b⟩

theorem info_LF : (Tryz.prog.info? 57).map (fun i => (i.zero, i.size, i.bytes)) = some (some (.slice none 0 0), 1, 24) := by kernel_rfl

end Go.Proofs.YtholhpmnicibgaaGreat
/- The instructions of package vector, as function values. -/
namespace Go.Proofs.YtholhpmnicibgaaGreat
open Go.RowKit
set_option linter.unusedVariables false

set_option maxHeartbeats 400000 in
theorem oneIf_any (b : Bool) (w : World) : Calls Tryz.prog 172 #[.bool b] w fun e w' => e = .returned (.int .u32 (flag b)) ∧ w' = w := by
  cases b <;> (go_enter Tryz.func172, Tryz.ntmps172; go_wp2; go_ret; exact ⟨rfl, rfl⟩)

set_option maxHeartbeats 400000 in
theorem opfin_any (a : Int) (h : IsP a) (w : World) : Calls Tryz.prog 171 #[.int .u32 a] w fun e w' => e = .returned (.int .u32 (flag (ffin a))) ∧ Below w.heap.size w w' := by
  go_enter Tryz.func171, Tryz.ntmps171
  go_wp2_with (first
    | (go_at_call 173; refine (finite_any _ h.1 h.2 _).mono ?_; rintro e w1 ⟨rfl, hw'⟩; obtain rfl := hw'.symm)
    | (go_at_call 172; refine (oneIf_any _ _).mono ?_; rintro e w1 ⟨rfl, hw'⟩; obtain rfl := hw'.symm))
  go_ret
  exact ⟨rfl, bel0V _⟩

set_option maxHeartbeats 400000 in
theorem opless_any (a : Int) (h : IsP a) (b : Int) (k : IsP b) (w : World) : Calls Tryz.prog 178 #[.int .u32 a, .int .u32 b] w fun e w' => e = .returned (.int .u32 (flag (fless a b))) ∧ Below w.heap.size w w' := by
  go_enter Tryz.func178, Tryz.ntmps178
  go_wp2_with (first
    | (go_at_call 179; refine (less_any _ h.1 h.2 _ k.1 k.2 _).mono ?_; rintro e w1 ⟨rfl, hw'⟩; obtain rfl := hw'.symm)
    | (go_at_call 172; refine (oneIf_any _ _).mono ?_; rintro e w1 ⟨rfl, hw'⟩; obtain rfl := hw'.symm))
  go_ret
  exact ⟨rfl, bel0V _⟩

set_option maxHeartbeats 400000 in
theorem opsel_any (a b c : Int) (ha : IsP a) (hb : IsP b) (hc : IsP c) (w : World) : Calls Tryz.prog 180 #[.agg #[.int .u32 a, .int .u32 b, .int .u32 c]] w fun e w' => e = .returned (.int .u32 (fsel a b c)) ∧ Below w.heap.size w w' := by
  go_enter Tryz.func180, Tryz.ntmps180
  go_wp2_with (go_at_call 147; refine (select_any _ ha.1 ha.2 _ hb.1 hb.2 _ hc.1 hc.2 _).mono ?_; rintro e w1 ⟨rfl, hw'⟩; obtain rfl := hw'.symm)
  go_ret
  exact ⟨rfl, mbel_alloc w _⟩

set_option maxRecDepth 100000 in
set_option maxHeartbeats 400000 in
theorem ofone_any (k : Nat) (hen : EntV k) (f : Int → Int) (hk : ∀ (a : Int) (v : World), IsP a → Calls Tryz.prog k #[.int .u32 a] v fun e v' => e = .returned (.int .u32 (f a)) ∧ Below v.heap.size v v')
    (g : Nat) (a b c : Int) (ha : IsP a) (w : World) (hg : w.cell? ⟨g, 0, none⟩ = some (.func (.func k) #[] #[])) :
    Calls Tryz.prog 193 #[.agg #[.int .u32 a, .int .u32 b, .int .u32 c], .pointer (some ⟨g, 0, none⟩)] w fun e w' => e = .returned (.int .u32 (f a)) ∧ Below w.heap.size w w' := by
  have hg2 : ∀ o, (w.alloc o).cell? ⟨g, 0, none⟩ = some (.func (.func k) #[] #[]) := fun o => ((mbel_alloc w o).cell (mcell_ltV hg)).trans hg
  have HK : Hid (∀ (v : World), Calls Tryz.prog k #[.int .u32 a] v fun e v' => e = .returned (.int .u32 (f a)) ∧ Below v.heap.size v v') := fun v => hk a v ha
  clear hk
  unfold EntV at hen
  go_enter Tryz.func193, Tryz.ntmps193
  go_wp2_with ((with_reducible refine (HK.out _).mono ?_); rintro e w1 ⟨rfl, hb1⟩)
  go_ret
  exact ⟨rfl, belV (mbel_alloc w _) hb1⟩

set_option maxRecDepth 100000 in
set_option maxHeartbeats 400000 in
theorem oftwo_any (k : Nat) (hen : EntV k) (f : Int → Int → Int) (hk : ∀ (a b : Int) (v : World), IsP a → IsP b → Calls Tryz.prog k #[.int .u32 a, .int .u32 b] v fun e v' => e = .returned (.int .u32 (f a b)) ∧ Below v.heap.size v v')
    (g : Nat) (a b c : Int) (ha : IsP a) (hb : IsP b) (w : World) (hg : w.cell? ⟨g, 0, none⟩ = some (.func (.func k) #[] #[])) :
    Calls Tryz.prog 195 #[.agg #[.int .u32 a, .int .u32 b, .int .u32 c], .pointer (some ⟨g, 0, none⟩)] w fun e w' => e = .returned (.int .u32 (f a b)) ∧ Below w.heap.size w w' := by
  have hg2 : ∀ o, (w.alloc o).cell? ⟨g, 0, none⟩ = some (.func (.func k) #[] #[]) := fun o => ((mbel_alloc w o).cell (mcell_ltV hg)).trans hg
  have HK : Hid (∀ (v : World), Calls Tryz.prog k #[.int .u32 a, .int .u32 b] v fun e v' => e = .returned (.int .u32 (f a b)) ∧ Below v.heap.size v v') := fun v => hk a b v ha hb
  clear hk
  unfold EntV at hen
  go_enter Tryz.func195, Tryz.ntmps195
  go_wp2_with ((with_reducible refine (HK.out _).mono ?_); rintro e w1 ⟨rfl, hb1⟩)
  go_ret
  exact ⟨rfl, belV (mbel_alloc w _) hb1⟩

/-- A function value that does f with the elements at a place. -/
def Works (w : World) (D : Value) (f : Int → Int → Int → Int) : Prop :=
  ∃ k cap, D = .func (.func k) #[] cap ∧ EntV k ∧ ∀ (a b c : Int) (v : World), IsP a → IsP b → IsP c → Below w.heap.size w v →
    Calls Tryz.prog k (#[.agg #[.int .u32 a, .int .u32 b, .int .u32 c]] ++ cap) v fun e v' => e = .returned (.int .u32 (f a b c)) ∧ Below v.heap.size v v'
theorem Works.below {w w' : World} {D : Value} {f : Int → Int → Int → Int} (h : Works w D f) (hb : Below w.heap.size w w') : Works w' D f := by
  obtain ⟨k, cap, e, hen, h⟩ := h
  exact ⟨k, cap, e, hen, fun a b c v ha hb' hc hv => h a b c v ha hb' hc (belV hb hv)⟩

set_option maxHeartbeats 400000 in
theorem mkOne_any (k : Nat) (hen : EntV k) (f : Int → Int) (hk : ∀ (a : Int) (v : World), IsP a → Calls Tryz.prog k #[.int .u32 a] v fun e v' => e = .returned (.int .u32 (f a)) ∧ Below v.heap.size v v') (w : World) :
    Calls Tryz.prog 167 #[.func (.func k) #[] #[]] w fun e w' => ∃ D, e = .returned D ∧ Works w' D (fun a b c => f a) ∧ Below w.heap.size w w' := by
  go_enter Tryz.func167, Tryz.ntmps167
  go_wp2
  go_ret
  exact ⟨_, rfl, ⟨193, _, rfl, enters_of Tryz.func193 (by kernel_rfl) rfl, fun a b c v ha hb hc hv => ofone_any k hen f hk w.heap.size a b c ha v ((hv.cell (by simp)).trans (by simp))⟩, mbel_alloc w _⟩

set_option maxHeartbeats 400000 in
theorem mkTwo_any (k : Nat) (hen : EntV k) (f : Int → Int → Int) (hk : ∀ (a b : Int) (v : World), IsP a → IsP b → Calls Tryz.prog k #[.int .u32 a, .int .u32 b] v fun e v' => e = .returned (.int .u32 (f a b)) ∧ Below v.heap.size v v') (w : World) :
    Calls Tryz.prog 174 #[.func (.func k) #[] #[]] w fun e w' => ∃ D, e = .returned D ∧ Works w' D (fun a b c => f a b) ∧ Below w.heap.size w w' := by
  go_enter Tryz.func174, Tryz.ntmps174
  go_wp2
  go_ret
  exact ⟨_, rfl, ⟨195, _, rfl, enters_of Tryz.func195 (by kernel_rfl) rfl, fun a b c v ha hb hc hv => oftwo_any k hen f hk w.heap.size a b c ha hb v ((hv.cell (by simp)).trans (by simp))⟩, mbel_alloc w _⟩

set_option maxHeartbeats 400000 in
theorem instr_3 (w : World) : Calls Tryz.prog 148 #[.int .i64 3] w fun e w' => ∃ D, e = .returned (.tuple #[.int .i64 1, D]) ∧ Works w' D (opf 3) ∧ Below w.heap.size w w' := by
  go_enter Tryz.func148, Tryz.ntmps148
  go_wp2_with (go_at_call 167; refine (mkOne_any 104 (enters_of Tryz.func104 (by kernel_rfl) rfl) canon (fun a v h => ((canonV_any a h.1 h.2 v).mono fun e w' h => ⟨h.1, by rw [h.2]; exact bel0V _⟩)) _).mono ?_; rintro e w1 ⟨D, rfl, hD, hb1⟩; have HD : Hid (Works w1 D (opf 3)) := hD; clear hD)
  go_returns
  exact ⟨_, rfl, HD.out, hb1⟩

set_option maxHeartbeats 400000 in
theorem instr_11 (w : World) : Calls Tryz.prog 148 #[.int .i64 11] w fun e w' => ∃ D, e = .returned (.tuple #[.int .i64 1, D]) ∧ Works w' D (opf 11) ∧ Below w.heap.size w w' := by
  go_enter Tryz.func148, Tryz.ntmps148
  go_wp2_with (go_at_call 167; refine (mkOne_any 168 (enters_of Tryz.func168 (by kernel_rfl) rfl) fsqrt (fun a v h => sqrt_any a h.1 h.2 v) _).mono ?_; rintro e w1 ⟨D, rfl, hD, hb1⟩; have HD : Hid (Works w1 D (opf 11)) := hD; clear hD)
  go_returns
  exact ⟨_, rfl, HD.out, hb1⟩

set_option maxHeartbeats 400000 in
theorem instr_12 (w : World) : Calls Tryz.prog 148 #[.int .i64 12] w fun e w' => ∃ D, e = .returned (.tuple #[.int .i64 1, D]) ∧ Works w' D (opf 12) ∧ Below w.heap.size w w' := by
  go_enter Tryz.func148, Tryz.ntmps148
  go_wp2_with (go_at_call 167; refine (mkOne_any 169 (enters_of Tryz.func169 (by kernel_rfl) rfl) fneg (fun a v h => ((neg_any a h.1 h.2 v).mono fun e w' h => ⟨h.1, by rw [h.2]; exact bel0V _⟩)) _).mono ?_; rintro e w1 ⟨D, rfl, hD, hb1⟩; have HD : Hid (Works w1 D (opf 12)) := hD; clear hD)
  go_returns
  exact ⟨_, rfl, HD.out, hb1⟩

set_option maxHeartbeats 400000 in
theorem instr_13 (w : World) : Calls Tryz.prog 148 #[.int .i64 13] w fun e w' => ∃ D, e = .returned (.tuple #[.int .i64 1, D]) ∧ Works w' D (opf 13) ∧ Below w.heap.size w w' := by
  go_enter Tryz.func148, Tryz.ntmps148
  go_wp2_with (go_at_call 167; refine (mkOne_any 170 (enters_of Tryz.func170 (by kernel_rfl) rfl) fabs (fun a v h => ((abs_any a h.1 h.2 v).mono fun e w' h => ⟨h.1, by rw [h.2]; exact bel0V _⟩)) _).mono ?_; rintro e w1 ⟨D, rfl, hD, hb1⟩; have HD : Hid (Works w1 D (opf 13)) := hD; clear hD)
  go_returns
  exact ⟨_, rfl, HD.out, hb1⟩

set_option maxHeartbeats 400000 in
theorem instr_14 (w : World) : Calls Tryz.prog 148 #[.int .i64 14] w fun e w' => ∃ D, e = .returned (.tuple #[.int .i64 1, D]) ∧ Works w' D (opf 14) ∧ Below w.heap.size w w' := by
  go_enter Tryz.func148, Tryz.ntmps148
  go_wp2_with (go_at_call 167; refine (mkOne_any 171 (enters_of Tryz.func171 (by kernel_rfl) rfl) (fun a => flag (ffin a)) (fun a v h => opfin_any a h v) _).mono ?_; rintro e w1 ⟨D, rfl, hD, hb1⟩; have HD : Hid (Works w1 D (opf 14)) := hD; clear hD)
  go_returns
  exact ⟨_, rfl, HD.out, hb1⟩

set_option maxHeartbeats 400000 in
theorem instr_4 (w : World) : Calls Tryz.prog 148 #[.int .i64 4] w fun e w' => ∃ D, e = .returned (.tuple #[.int .i64 2, D]) ∧ Works w' D (opf 4) ∧ Below w.heap.size w w' := by
  go_enter Tryz.func148, Tryz.ntmps148
  go_wp2_with (go_at_call 174; refine (mkTwo_any 145 (enters_of Tryz.func145 (by kernel_rfl) rfl) fadd (fun a b v h k => add_any a h.1 h.2 b k.1 k.2 v) _).mono ?_; rintro e w1 ⟨D, rfl, hD, hb1⟩; have HD : Hid (Works w1 D (opf 4)) := hD; clear hD)
  go_returns
  exact ⟨_, rfl, HD.out, hb1⟩

set_option maxHeartbeats 400000 in
theorem instr_5 (w : World) : Calls Tryz.prog 148 #[.int .i64 5] w fun e w' => ∃ D, e = .returned (.tuple #[.int .i64 2, D]) ∧ Works w' D (opf 5) ∧ Below w.heap.size w w' := by
  go_enter Tryz.func148, Tryz.ntmps148
  go_wp2_with (go_at_call 174; refine (mkTwo_any 175 (enters_of Tryz.func175 (by kernel_rfl) rfl) fsub (fun a b v h k => sub_any a h.1 h.2 b k.1 k.2 v) _).mono ?_; rintro e w1 ⟨D, rfl, hD, hb1⟩; have HD : Hid (Works w1 D (opf 5)) := hD; clear hD)
  go_returns
  exact ⟨_, rfl, HD.out, hb1⟩

set_option maxHeartbeats 400000 in
theorem instr_6 (w : World) : Calls Tryz.prog 148 #[.int .i64 6] w fun e w' => ∃ D, e = .returned (.tuple #[.int .i64 2, D]) ∧ Works w' D (opf 6) ∧ Below w.heap.size w w' := by
  go_enter Tryz.func148, Tryz.ntmps148
  go_wp2_with (go_at_call 174; refine (mkTwo_any 142 (enters_of Tryz.func142 (by kernel_rfl) rfl) fmul (fun a b v h k => mul_any a h.1 h.2 b k.1 k.2 v) _).mono ?_; rintro e w1 ⟨D, rfl, hD, hb1⟩; have HD : Hid (Works w1 D (opf 6)) := hD; clear hD)
  go_returns
  exact ⟨_, rfl, HD.out, hb1⟩

set_option maxHeartbeats 400000 in
theorem instr_7 (w : World) : Calls Tryz.prog 148 #[.int .i64 7] w fun e w' => ∃ D, e = .returned (.tuple #[.int .i64 2, D]) ∧ Works w' D (opf 7) ∧ Below w.heap.size w w' := by
  go_enter Tryz.func148, Tryz.ntmps148
  go_wp2_with (go_at_call 174; refine (mkTwo_any 176 (enters_of Tryz.func176 (by kernel_rfl) rfl) fdiv (fun a b v h k => div_any a h.1 h.2 b k.1 k.2 v) _).mono ?_; rintro e w1 ⟨D, rfl, hD, hb1⟩; have HD : Hid (Works w1 D (opf 7)) := hD; clear hD)
  go_returns
  exact ⟨_, rfl, HD.out, hb1⟩

set_option maxHeartbeats 400000 in
theorem instr_8 (w : World) : Calls Tryz.prog 148 #[.int .i64 8] w fun e w' => ∃ D, e = .returned (.tuple #[.int .i64 2, D]) ∧ Works w' D (opf 8) ∧ Below w.heap.size w w' := by
  go_enter Tryz.func148, Tryz.ntmps148
  go_wp2_with (go_at_call 174; refine (mkTwo_any 146 (enters_of Tryz.func146 (by kernel_rfl) rfl) fmin (fun a b v h k => min_any a h.1 h.2 b k.1 k.2 v) _).mono ?_; rintro e w1 ⟨D, rfl, hD, hb1⟩; have HD : Hid (Works w1 D (opf 8)) := hD; clear hD)
  go_returns
  exact ⟨_, rfl, HD.out, hb1⟩

set_option maxHeartbeats 400000 in
theorem instr_9 (w : World) : Calls Tryz.prog 148 #[.int .i64 9] w fun e w' => ∃ D, e = .returned (.tuple #[.int .i64 2, D]) ∧ Works w' D (opf 9) ∧ Below w.heap.size w w' := by
  go_enter Tryz.func148, Tryz.ntmps148
  go_wp2_with (go_at_call 174; refine (mkTwo_any 177 (enters_of Tryz.func177 (by kernel_rfl) rfl) fmax (fun a b v h k => max_any a h.1 h.2 b k.1 k.2 v) _).mono ?_; rintro e w1 ⟨D, rfl, hD, hb1⟩; have HD : Hid (Works w1 D (opf 9)) := hD; clear hD)
  go_returns
  exact ⟨_, rfl, HD.out, hb1⟩

set_option maxHeartbeats 400000 in
theorem instr_10 (w : World) : Calls Tryz.prog 148 #[.int .i64 10] w fun e w' => ∃ D, e = .returned (.tuple #[.int .i64 2, D]) ∧ Works w' D (opf 10) ∧ Below w.heap.size w w' := by
  go_enter Tryz.func148, Tryz.ntmps148
  go_wp2_with (go_at_call 174; refine (mkTwo_any 178 (enters_of Tryz.func178 (by kernel_rfl) rfl) (fun a b => flag (fless a b)) (fun a b v h k => opless_any a h b k v) _).mono ?_; rintro e w1 ⟨D, rfl, hD, hb1⟩; have HD : Hid (Works w1 D (opf 10)) := hD; clear hD)
  go_returns
  exact ⟨_, rfl, HD.out, hb1⟩

set_option maxHeartbeats 400000 in
theorem instr_15 (w : World) : Calls Tryz.prog 148 #[.int .i64 15] w fun e w' => ∃ D, e = .returned (.tuple #[.int .i64 3, D]) ∧ Works w' D (opf 15) ∧ Below w.heap.size w w' := by
  go_enter Tryz.func148, Tryz.ntmps148
  go_wp2
  go_returns
  exact ⟨_, rfl, ⟨180, #[], rfl, enters_of Tryz.func180 (by kernel_rfl) rfl, fun a b c v ha hb hc hv => opsel_any a b c ha hb hc v⟩, bel0V w⟩

theorem takes_cases (op : Int) (h : takes op ≠ 0) : op = 3 ∨ op = 11 ∨ op = 12 ∨ op = 13 ∨ op = 14 ∨ op = 4 ∨ op = 5 ∨ op = 6 ∨ op = 7 ∨ op = 8 ∨ op = 9 ∨ op = 10 ∨ op = 15 := by
  unfold takes at h
  split at h
  · omega
  · split at h
    · omega
    · split at h
      · omega
      · exact absurd rfl h

theorem instr_any (op : Int) (h : takes op ≠ 0) (w : World) : Calls Tryz.prog 148 #[.int .i64 op] w fun e w' => ∃ D, e = .returned (.tuple #[.int .i64 (takes op), D]) ∧ Works w' D (opf op) ∧ Below w.heap.size w w' := by
  rcases takes_cases op h with rfl | rfl | rfl | rfl | rfl | rfl | rfl | rfl | rfl | rfl | rfl | rfl | rfl
  · exact instr_3 w
  · exact instr_11 w
  · exact instr_12 w
  · exact instr_13 w
  · exact instr_14 w
  · exact instr_4 w
  · exact instr_5 w
  · exact instr_6 w
  · exact instr_7 w
  · exact instr_8 w
  · exact instr_9 w
  · exact instr_10 w
  · exact instr_15 w

end Go.Proofs.YtholhpmnicibgaaGreat
/- Package vector: Apply. -/
namespace Go.Proofs.YtholhpmnicibgaaGreat
open Go.RowKit
set_option linter.unusedVariables false

/-- The length that the lists 0 .. j have together, where they go together. -/
def shpV (l : Nat → Nat) : Nat → Option Nat
  | 0 => some (l 0)
  | j + 1 => match shpV l j with
    | none => none
    | some n => if l (j + 1) = n then some n else if l (j + 1) = 0 ∨ n = 0 then none else if n = 1 then some (l (j + 1)) else if l (j + 1) = 1 then some n else none
theorem shp_succ {l : Nat → Nat} {j n : Nat} (h : shpV l j = some n) : shpV l (j + 1) = if l (j + 1) = n then some n else if l (j + 1) = 0 ∨ n = 0 then none else if n = 1 then some (l (j + 1)) else if l (j + 1) = 1 then some n else none := by
  show (match shpV l j with | none => none | some n => _) = _
  rw [h]
theorem shp_none {l : Nat → Nat} {j : Nat} (h : shpV l j = none) : ∀ M, j ≤ M → shpV l M = none := by
  intro M
  induction M with
  | zero => intro hj; have : j = 0 := by omega
            subst this; exact h
  | succ M ih =>
    intro hj
    rcases Nat.lt_or_ge M j with c | c
    · have : j = M + 1 := by omega
      subst this; exact h
    · show (match shpV l M with | none => none | some n => _) = _
      rw [ih c]
theorem shp_le {l : Nat → Nat} {N : Nat} (hl : ∀ i, l i ≤ N) : ∀ {M n : Nat}, shpV l M = some n → n ≤ N := by
  intro M
  induction M with
  | zero => intro n h; cases h; exact hl 0
  | succ M ih =>
    intro n h
    cases e : shpV l M with
    | none => rw [shp_none e (M + 1) (by omega)] at h; cases h
    | some k =>
      rw [shp_succ e] at h
      have := ih e
      have := hl (M + 1)
      repeat' split at h
      all_goals cases h
      all_goals omega
/-- Each list has that length, or the length 1. -/
theorem shp_each {l : Nat → Nat} : ∀ {M n : Nat}, shpV l M = some n → ∀ i, i ≤ M → l i = n ∨ (l i = 1 ∧ n ≠ 0) := by
  intro M
  induction M with
  | zero => intro n h i hi; cases h; have : i = 0 := by omega
            subst this; exact .inl rfl
  | succ M ih =>
    intro n h i hi
    cases e : shpV l M with
    | none => rw [shp_none e (M + 1) (by omega)] at h; cases h
    | some k =>
      rw [shp_succ e] at h
      have hi' : i ≤ M ∨ i = M + 1 := by omega
      split at h
      · cases h
        rcases hi' with c | c
        · exact ih e i c
        · subst c; left; assumption
      · split at h
        · cases h
        · split at h
          · cases h
            rcases hi' with c | c
            · have := ih e i c; omega
            · subst c; exact .inl rfl
          · split at h
            · cases h
              rcases hi' with c | c
              · exact ih e i c
              · subst c; right; omega
            · cases h

set_option maxHeartbeats 2000000 in
theorem shape_any (b o M cq : Nat) (P : Nat → Option Addr) (l c : Nat → Nat) (hM : M ≤ 1048576) (hl : ∀ i, l i ≤ 1048576) (hc : M + 1 ≤ cq) (w : World) (hh : ∀ i, i < M + 1 → w.cell? ⟨b, o + i, none⟩ = some (.slice (P i) (l i) (c i))) :
    Calls Tryz.prog 149 #[.slice (some ⟨b, o, none⟩) (M + 1) cq] w fun e w' => e = .returned (.tuple #[.int .i64 ((shpV l M).getD 0 : Nat), .bool (shpV l M).isSome]) ∧ w' = w := by
  have h0 := hh 0 (by omega)
  rw [Nat.add_zero] at h0
  have i1 : (1 : Int) ≤ ((M + 1 : Nat) : Int) := by omega
  rcases Nat.eq_zero_or_pos M with hM0 | hM0
  · subst hM0
    have HS : Hid ((shpV l 0).getD 0 = l 0 ∧ (shpV l 0).isSome = true) := ⟨rfl, rfl⟩
    clear hh hl
    go_enter Tryz.func149, Tryz.ntmps149
    go_wp2
    all_goals (refine wp_loop_rounds 1 ?_; rw [rounds_succ]; go_wp2; go_returns; exact ⟨rfl, rfl⟩)
  · have hq : ¬ (cq = 1) := by omega
    have hq2 : 1 < cq := by omega
    have HH : Hid ((∀ i, i < M + 1 → w.cell? ⟨b, o + i, none⟩ = some (.slice (P i) (l i) (c i))) ∧ ∀ i, l i ≤ 1048576) := ⟨hh, hl⟩
    clear hh hl
    go_enter Tryz.func149, Tryz.ntmps149
    go_wp2
    go_loopw [4, 14] (fun nv iv wr => wr = w ∧ ∃ j n : Nat, j ≤ M ∧ iv = .int .i64 j ∧ nv = .int .i64 n ∧ n ≤ 1048576 ∧ Hid (shpV l j = some n)) (fun _ iv _ => M - (intOf iv).toNat)
    case atStart => exact ⟨rfl, 0, l 0, Nat.zero_le _, rfl, rfl, HH.out.2 0, rfl⟩
    case round =>
      obtain ⟨rfl, j, n, hj, rfl, rfl, hn, hs⟩ := hrel
      by_cases hlt : j < M
      · have h1 : wr.cell? ⟨b, o + 1 + j, none⟩ = some (.slice (P (j + 1)) (l (j + 1)) (c (j + 1))) := by have := HH.out.1 (j + 1) (by omega); rw [show o + (j + 1) = o + 1 + j by omega] at this; exact this
        have i2 : (0 : Int) ≤ (j : Int) := by omega
        have i3 : (j : Int) < (M : Int) := by omega
        have hl1 := HH.out.2 (j + 1)
        obtain ⟨L, hL⟩ : ∃ L, L = l (j + 1) := ⟨_, rfl⟩
        have HSS : Hid (shpV l (j + 1) = if L = n then some n else if L = 0 ∨ n = 0 then none else if n = 1 then some L else if L = 1 then some n else none) := by subst hL; exact shp_succ hs.out
        rw [← hL] at h1 hl1
        clear hL
        by_cases c1 : L = n
        · subst c1
          have HS1 : Hid (shpV l (j + 1) = some L) := by have := HSS.out; rw [if_pos rfl] at this; exact this
          clear HSS hs
          go_wp2
          go_roundw
          case rel => exact ⟨by first | rfl | trivial, j + 1, L, by omega, by go_num, rfl, hn, HS1⟩
          case measure => simp [intOf]; omega
        · have c1' : ¬ ((L : Int) = (n : Int)) := by omega
          by_cases c2 : L = 0 ∨ n = 0
          · have HS1 : Hid (shpV l M = none) := by have := HSS.out; rw [if_neg c1, if_pos c2] at this; exact shp_none this M (by omega)
            clear HSS hs
            rcases c2 with c2 | c2
            · subst c2
              go_wp2
              go_returns
              exact ⟨by rw [HS1.out]; rfl, rfl⟩
            · subst c2
              have c3 : ¬ ((L : Int) = 0) := by omega
              go_wp2
              go_returns
              exact ⟨by rw [HS1.out]; rfl, rfl⟩
          · have c3 : ¬ ((L : Int) = 0) := by omega
            have c4 : ¬ ((n : Int) = 0) := by omega
            by_cases c5 : n = 1
            · have HS1 : Hid (shpV l (j + 1) = some L) := by have := HSS.out; rw [if_neg c1, if_neg c2, if_pos c5] at this; exact this
              clear HSS hs
              subst c5
              go_wp2
              go_roundw
              case rel => exact ⟨by first | rfl | trivial, j + 1, L, by omega, by go_num, rfl, hl1, HS1⟩
              case measure => simp [intOf]; omega
            · have c6 : ¬ ((n : Int) = 1) := by omega
              by_cases c7 : L = 1
              · have HS1 : Hid (shpV l (j + 1) = some n) := by have := HSS.out; rw [if_neg c1, if_neg c2, if_neg c5, if_pos c7] at this; exact this
                clear HSS hs
                subst c7
                go_wp2
                go_roundw
                case rel => exact ⟨by first | rfl | trivial, j + 1, n, by omega, by go_num, rfl, hn, HS1⟩
                case measure => simp [intOf]; omega
              · have HS1 : Hid (shpV l M = none) := by have := HSS.out; rw [if_neg c1, if_neg c2, if_neg c5, if_neg c7] at this; exact shp_none this M (by omega)
                have c8 : ¬ ((L : Int) = 1) := by omega
                have c9 : ((L : Int) != 1) = true := by simp [c8]
                clear HSS hs
                go_wp2
                all_goals first
                  | (have hq : ((L : Int) != 1) = false := by assumption
                     rw [c9] at hq; cases hq)
                  | (go_returns; exact ⟨by rw [HS1.out]; rfl, rfl⟩)
      · have : j = M := by omega
        subst this
        go_wp2
        go_returns
        exact ⟨by rw [hs.out]; rfl, rfl⟩

end Go.Proofs.YtholhpmnicibgaaGreat
/- Package vector: Apply, place by place. -/
namespace Go.Proofs.YtholhpmnicibgaaGreat
open Go.RowKit
set_option linter.unusedVariables false

/-- The element of list j at a place. -/
def elAt (l : Nat → Nat) (X : Nat → Nat → Int) (m i j : Nat) : Int := if j < m then X j (if l j = 1 then 0 else i) else 0
theorem isP_elAt {l : Nat → Nat} {X : Nat → Nat → Int} (hX : ∀ i j, IsP (X i j)) (m i j : Nat) : IsP (elAt l X m i j) := isP_ite (hX _ _) isP_0

theorem el_step (F : Nat → Int) (j k : Nat) : (if k = j then Value.int .u32 (F j) else .int .u32 (if k < j then F k else 0)) = .int .u32 (if k < j + 1 then F k else 0) := by
  by_cases h : k = j
  · subst h; rw [if_pos rfl, if_pos (by omega)]
  · rw [if_neg h]
    by_cases h2 : k < j
    · rw [if_pos h2, if_pos (by omega)]
    · rw [if_neg h2, if_neg (by omega)]

theorem two_rows (w : World) (t : TypeId) : ((w.alloc (.cells #[.int .u32 0, .int .u32 0, .int .u32 0] t)).alloc (.cells #[.int .u32 0, .int .u32 0, .int .u32 0] t)).rowIs (w.heap.size + 1) t 3 (fun _ => .int .u32 0) ∧ ((w.alloc (.cells #[.int .u32 0, .int .u32 0, .int .u32 0] t)).alloc (.cells #[.int .u32 0, .int .u32 0, .int .u32 0] t)).rowIs w.heap.size t 3 (fun _ => .int .u32 0) := by
  have h : ∀ i, i < 3 → (#[Value.int .u32 0, .int .u32 0, .int .u32 0] : Array Value)[i]? = some (.int .u32 0) := by
    intro i hi
    have : i = 0 ∨ i = 1 ∨ i = 2 := by omega
    rcases this with rfl | rfl | rfl <;> rfl
  have r1 := World.rowIs_alloc w #[.int .u32 0, .int .u32 0, .int .u32 0] t (fun _ => .int .u32 0) h
  have r2 := World.rowIs_alloc (w.alloc (.cells #[.int .u32 0, .int .u32 0, .int .u32 0] t)) #[.int .u32 0, .int .u32 0, .int .u32 0] t (fun _ => .int .u32 0) h
  have e : (w.alloc (.cells #[.int .u32 0, .int .u32 0, .int .u32 0] t)).heap.size = w.heap.size + 1 := by simp
  rw [e] at r2
  exact ⟨r2, r1.alloc _⟩

set_option maxRecDepth 100000 in
set_option maxHeartbeats 2000000 in
theorem argsAt_any (place b o m cq : Nat) (P : Nat → Option Addr) (l c : Nat → Nat) (X : Nat → Nat → Int) (hm : m ≤ 3) (hi : place ≤ 1048576) (hl : ∀ i, l i ≤ 1048576) (hpl : ∀ i, i < m → l i = 1 ∨ place < l i) (w : World) (hL : Lsts .u32 w (some ⟨b, o, none⟩) m P l c X) :
    Calls Tryz.prog 151 #[.int .i64 place, .slice (some ⟨b, o, none⟩) m cq] w fun e w' => e = .returned (.agg #[.int .u32 (elAt l X m place 0), .int .u32 (elAt l X m place 1), .int .u32 (elAt l X m place 2)]) ∧ Below w.heap.size w w' := by
  have HL : Hid (Lsts .u32 w (some ⟨b, o, none⟩) m P l c X ∧ (∀ i, l i ≤ 1048576) ∧ ∀ i, i < m → l i = 1 ∨ place < l i) := ⟨hL, hl, hpl⟩
  obtain ⟨E, HE⟩ : ∃ E : Nat → Int, Hid (E = elAt l X m place) := ⟨_, rfl⟩
  have HE0 := HE.out
  rw [← HE0]
  have T := two_rows w 216
  have HT : Hid (((w.alloc (.cells #[.int .u32 0, .int .u32 0, .int .u32 0] 216)).alloc (.cells #[.int .u32 0, .int .u32 0, .int .u32 0] 216)).rowIs (w.heap.size + 1) 216 3 (fun _ => .int .u32 0) ∧ ((w.alloc (.cells #[.int .u32 0, .int .u32 0, .int .u32 0] 216)).alloc (.cells #[.int .u32 0, .int .u32 0, .int .u32 0] 216)).rowIs w.heap.size 216 3 (fun _ => .int .u32 0)) := T
  clear hL hl hpl HE0 T
  go_enter Tryz.func151, Tryz.ntmps151
  go_wp2
  go_loopw [10] (fun iv wr => Below w.heap.size w wr ∧ ∃ j : Nat, j ≤ m ∧ iv = .int .i64 j ∧ Hid (wr.rowIs (w.heap.size + 1) 216 3 (fun i => .int .u32 (if i < j then E i else 0)) ∧ wr.rowIs w.heap.size 216 3 (fun _ => .int .u32 0))) (fun iv _ => m - (intOf iv).toNat)
  case atStart => exact ⟨by go_grown, 0, Nat.zero_le _, rfl, HT.out.1.congr fun i hi => by simp, HT.out.2⟩
  case round =>
    obtain ⟨hb, j, hj, rfl, hrow⟩ := hrel
    clear HT
    by_cases hlt : j < m
    · have h1 : wr.cell? ⟨b, o + j, none⟩ = some (.slice (P j) (l j) (c j)) := by
        rcases HL.out.1.heads with q | ⟨b', o', e, hh⟩
        · omega
        · cases e; exact (hb.cell (mcell_ltV (hh j hlt))).trans (hh j hlt)
      have hpj := HL.out.2.2 j hlt
      have hlj := HL.out.2.1 j
      have HEj : E j = X j (if l j = 1 then 0 else place) := by rw [HE.out]; unfold elAt; rw [if_pos hlt]
      have hR := (HL.out.1.parts j hlt).below hb
      obtain ⟨L, hL0⟩ : ∃ L, L = l j := ⟨_, rfl⟩
      rw [← hL0] at h1 hpj hlj HEj hR
      clear hL0
      rcases hR with hR | ⟨b2, o2, hP, hR⟩
      · omega
      rw [hP] at h1
      clear hP
      have c1 := hrow.out.1.cell (i := j) (by omega)
      have f1 := hrow.out.1.frozen j
      have i1 : (0 : Int) ≤ (j : Int) := by omega
      have i2 : (j : Int) < (m : Int) := by omega
      have i3 : (j : Int) < 3 := by omega
      have j3 : j < 3 := by omega
      have HR : Hid (∀ x, (wr.setCell ⟨w.heap.size + 1, j, none⟩ x).rowIs (w.heap.size + 1) 216 3 (fun k => if k = j then x else .int .u32 (if k < j then E k else 0)) ∧ (wr.setCell ⟨w.heap.size + 1, j, none⟩ x).rowIs w.heap.size 216 3 (fun _ => .int .u32 0)) := fun x => ⟨hrow.out.1.set j x, hrow.out.2.setOther (by simp) x⟩
      by_cases hL1 : L = 1
      · have h2 : wr.cell? ⟨b2, o2, none⟩ = some (.int .u32 (E j)) := by have := hR 0 (by omega); rw [Nat.add_zero] at this; rw [this, HEj, if_pos hL1]
        subst hL1
        clear hR HEj hpj
        go_wp2
        go_roundw
        case rel => exact ⟨hb.setCell (by simp) _, j + 1, by omega, by go_num, (HR.out _).1.congr fun k hk => el_step E j k, (HR.out _).2⟩
        case measure => simp [intOf]; omega
      · have h2 : wr.cell? ⟨b2, o2 + place, none⟩ = some (.int .u32 (E j)) := by have := hR place (by omega); rw [this, HEj, if_neg hL1]
        have c9 : ¬ ((L : Int) = 1) := by omega
        have i4 : (0 : Int) ≤ (place : Int) := by omega
        have i5 : (place : Int) < (L : Int) := by omega
        clear hR HEj hpj
        go_wp2
        go_roundw
        case rel => exact ⟨hb.setCell (by simp) _, j + 1, by omega, by go_num, (HR.out _).1.congr fun k hk => el_step E j k, (HR.out _).2⟩
        case measure => simp [intOf]; omega
    · have : j = m := by omega
      subst this
      have e0 : ∀ k, k < 3 → (if k < j then E k else 0) = E k := by
        intro k hk
        by_cases q : k < j
        · rw [if_pos q]
        · rw [if_neg q, HE.out]; unfold elAt; rw [if_neg q]
      have r1 := hrow.out.1.congr (g := fun i => .int .u32 (E i)) (fun i hi => by rw [e0 i hi])
      have c0 := r1.cell (i := 0) (by omega)
      have c1 := r1.cell (i := 1) (by omega)
      have c2 := r1.cell (i := 2) (by omega)
      have r0 := hrow.out.2
      have d0 := r0.cell (i := 0) (by omega)
      have d1 := r0.cell (i := 1) (by omega)
      have d2 := r0.cell (i := 2) (by omega)
      have f0 := r0.frozen 0
      have f1 := r0.frozen 1
      have f2 := r0.frozen 2
      have r3 := ((r0.set 0 (.int .u32 (E 0))).set 1 (.int .u32 (E 1))).set 2 (.int .u32 (E 2))
      have g0 := r3.cell (i := 0) (by omega)
      have g1 := r3.cell (i := 1) (by omega)
      have g2 := r3.cell (i := 2) (by omega)
      simp only [Nat.reduceEqDiff, if_true, if_false] at g0 g1 g2
      clear r1 r0 r3 e0 hrow
      go_wp2
      refine bodyPost_ret (by simp [results, Tryz.results151, go_sem, *]; try rfl) rfl ?_
      exact ⟨rfl, ((hb.setCell (Nat.le_refl _) _).setCell (Nat.le_refl _) _).setCell (Nat.le_refl _) _⟩

end Go.Proofs.YtholhpmnicibgaaGreat
/- The walks of the statements FloatAdds and FloatMuls. -/
namespace Go.Proofs.YtholhpmnicibgaaGreat
open Go.RowKit
set_option linter.unusedVariables false

end Go.Proofs.YtholhpmnicibgaaGreat
/- The length in bits, off the library's shelf. -/
namespace Go.Proofs.YtholhpmnicibgaaGreat
open Go.RowKit Go.Shelf
set_option linter.unusedVariables false

def lenRen : Go.Shelf.Ren := ⟨fun | 125 => 141 | 128 => 163 | 129 => 164 | n => n, fun | 3 => 3 | 4 => 4 | 5 => 5 | 9 => 9 | 46 => 193 | 51 => 42 | 53 => 192 | n => n, fun n => n⟩

theorem len_lays : Lays.n125 Tryz.prog lenRen where
  mixed := by kernel_rfl
  f125 := Tryz.func141.trans (congrArg some (by kernel_rfl))
  f128 := Tryz.func163.trans (congrArg some (by kernel_rfl))
  f129 := Tryz.func164.trans (congrArg some (by kernel_rfl))
  t3 := Tryz.underlying3
  a3 := Tryz.isAgg3
  z3 := Tryz.sizeOf3
  v3 := Tryz.zeroValue3
  t4 := Tryz.underlying4
  a4 := Tryz.isAgg4
  z4 := Tryz.sizeOf4
  v4 := Tryz.zeroValue4
  t5 := Tryz.underlying5
  a5 := Tryz.isAgg5
  z5 := Tryz.sizeOf5
  v5 := Tryz.zeroValue5
  t9 := Tryz.underlying9
  a9 := Tryz.isAgg9
  z9 := Tryz.sizeOf9
  v9 := Tryz.zeroValue9
  t46 := Tryz.underlying193
  a46 := Tryz.isAgg193
  z46 := Tryz.sizeOf193
  v46 := Tryz.zeroValue193
  t51 := Tryz.underlying42
  a51 := Tryz.isAgg42
  z51 := Tryz.sizeOf42
  v51 := Tryz.zeroValue42
  t53 := Tryz.underlying192
  a53 := Tryz.isAgg192
  z53 := Tryz.sizeOf192
  v53 := Tryz.zeroValue192

theorem blen_aux : ∀ f x : Nat, x < 2 ^ f → Lib.bitLenAux f x = blen x
  | 0, x, h => by
    have : x = 0 := by simpa using h
    subst this; rfl
  | f + 1, x, h => by
    unfold Lib.bitLenAux
    by_cases c : x = 0
    · rw [if_pos c, c]; rfl
    · rw [if_neg c, blen_aux f (x / 2) (by rw [Nat.pow_succ] at h; omega), blen_step x c]; omega

theorem len_any (x : Int) (h0 : 0 ≤ x) (h1 : x ≤ 18446744073709551615) (w : World) :
    Calls Tryz.prog 141 #[.int .u64 x] w fun e w' => e = .returned (.int .i64 (blen x.toNat)) ∧ w' = w := by
  have h := Any.bits_Len len_lays x w h0 h1
  have e : Lib.bitLen x.toNat = blen x.toNat := by
    unfold Lib.bitLen
    exact blen_aux 64 _ (by have : (2 : Nat) ^ 64 = 18446744073709551616 := rfl; omega)
  rw [e] at h
  exact h

end Go.Proofs.YtholhpmnicibgaaGreat
/- Powers. -/
namespace Go.Proofs.YtholhpmnicibgaaGreat
open Go.RowKit
set_option linter.unusedVariables false

def fpw (x n : Int) : Nat → Int → Int
  | 0, r => r
  | k + 1, r => fpw x n k (if n / 2 ^ k % 2 = 1 then fmul (fmul r r) x else fmul r r)
def fpow (x n : Int) : Int := if n < 1 then 1065353216 else fpw x n (blen n.toNat - 1) (canon x)
theorem fpw_lo (x n : Int) : ∀ (k : Nat) (r : Int), 0 ≤ r → r < 4294967296 → 0 ≤ fpw x n k r ∧ fpw x n k r < 4294967296
  | 0, r, h0, h1 => ⟨h0, h1⟩
  | k + 1, r, h0, h1 => by
    unfold fpw
    split
    · exact fpw_lo x n k _ (fmul_lo _ _).1 (fmul_lo _ _).2
    · exact fpw_lo x n k _ (fmul_lo _ _).1 (fmul_lo _ _).2
theorem fpow_lo (x n : Int) (h0 : 0 ≤ x) (h1 : x < 4294967296) : 0 ≤ fpow x n ∧ fpow x n < 4294967296 := by
  unfold fpow; split
  · decide
  · exact fpw_lo x n _ _ (canon_lo x h0 h1).1 (canon_lo x h0 h1).2
theorem and64_1 (n : Int) (h0 : 0 ≤ n) (h1 : n ≤ 9223372036854775807) (i : Nat) : bits .and .i64 (n / 2 ^ i) 1 = n / 2 ^ i % 2 := by
  have e : n / 2 ^ i = ((n.toNat / 2 ^ i : Nat) : Int) := by
    rw [Int.natCast_ediv, Int.natCast_pow, Int.toNat_of_nonneg h0]; rfl
  have hle : n.toNat / 2 ^ i ≤ n.toNat := Nat.div_le_self ..
  rw [e]
  generalize n.toNat / 2 ^ i = q at *
  have hx : q &&& 1 = q % 2 := Nat.and_one_is_mod q
  show IntKind.i64.wrap ((BitVec.ofInt 64 (q : Int) &&& BitVec.ofInt 64 ((1 : Nat) : Int)).toNat : Int) = _
  rw [BitVec.toNat_and, ofInt_u64 q (by omega), ofInt_u64 1 (by decide), hx, IntKind.wrap_i64]
  omega

set_option maxHeartbeats 1000000 in
theorem pow_any (x : Int) (h0 : 0 ≤ x) (h1 : x < 4294967296) (n : Int) (n0 : -9223372036854775808 ≤ n) (n1 : n ≤ 9223372036854775807) (w : World) :
    Calls Tryz.prog 112 #[.int .u32 x, .int .i64 n] w fun e w' => e = .returned (.int .u32 (fpow x n)) ∧ Below w.heap.size w w' := by
  unfold fpow
  by_cases c : n < 1
  · rw [if_pos c]
    go_enter Tryz.func112, Tryz.ntmps112
    go_wp2
    go_ret
    exact ⟨rfl, bel0V _⟩
  · rw [if_neg c]
    have hc := canon_lo x h0 h1
    have hc' : 0 ≤ canon x ∧ canon x < 4294967296 := hc
    clear hc
    have hB : 1 ≤ blen n.toNat ∧ blen n.toNat ≤ 63 := by
      unfold blen; rw [if_neg (by omega)]
      have : n.toNat.log2 < 63 := (Nat.log2_lt (by omega)).2 (by have : (2 : Nat) ^ 63 = 9223372036854775808 := rfl; omega)
      omega
    generalize hBB : blen n.toNat = B at *
    generalize hP : fpw x n (B - 1) (canon x) = P at *
    have HP : Hid (fpw x n (B - 1) (canon x) = P) := hP
    clear hP
    go_enter Tryz.func112, Tryz.ntmps112
    go_wp2_with (first
      | (go_at_call 104; refine (canonV_any _ (by omega) (by omega) _).mono ?_; rintro e w' ⟨rfl, hw'⟩; obtain rfl := hw'.symm)
      | (go_at_call 141; refine (len_any _ (by omega) (by omega) _).mono ?_; rintro e w' ⟨rfl, hw'⟩; obtain rfl := hw'.symm))
    go_loopw [5, 6] (fun rv pv wr => Below w.heap.size w wr ∧ ∃ (j : Nat) (r : Int), j ≤ 62 ∧ rv = .int .u32 r ∧ pv = .int .i64 ((j : Int) - 1) ∧ 0 ≤ r ∧ r < 4294967296 ∧ fpw x n j r = P) (fun _ pv _ => (intOf pv + 1).toNat)
    case atStart => exact ⟨bel0V _, B - 1, canon x, by omega, rfl, by rw [show ((B - 1 : Nat) : Int) - 1 = (B : Int) - 2 by omega], hc'.1, hc'.2, HP.out⟩
    case round =>
      obtain ⟨hbel, j, r, hj, rfl, rfl, r0, r1, hr⟩ := hrel
      have HR : Hid (fpw x n j r = P) := hr
      clear hr
      rcases Nat.eq_zero_or_pos j with hz | hz
      · subst hz
        have hPr : r = P := HR.out
        subst hPr
        clear HR HP
        go_wp2
        go_ret
        exact ⟨rfl, hbel⟩
      · obtain ⟨i, rfl⟩ : ∃ i, j = i + 1 := ⟨j - 1, by omega⟩
        rw [show ((i + 1 : Nat) : Int) - 1 = (i : Int) by omega]
        have hbit := and64_1 n (by omega) n1 i
        have l1 := fmul_lo r r
        have l2 := fmul_lo (fmul r r) x
        by_cases cb : n / 2 ^ i % 2 = 1
        · go_wp2_with (go_at_call 142; refine (mul_any _ (by omega) (by omega) _ (by omega) (by omega) _).mono ?_; rintro e w2 ⟨rfl, hb2⟩)
          go_roundw
          case rel => exact ⟨by repeat (first | assumption | refine belV ?_ (by assumption)), i, _, by omega, rfl, rfl, l2.1, l2.2, by have := HR.out; rw [fpw, if_pos cb] at this; exact this⟩
          case measure => first | (simp [intOf]; done) | (simp [intOf]; omega)
        · go_wp2_with (go_at_call 142; refine (mul_any _ (by omega) (by omega) _ (by omega) (by omega) _).mono ?_; rintro e w2 ⟨rfl, hb2⟩)
          go_roundw
          case rel => exact ⟨by repeat (first | assumption | refine belV ?_ (by assumption)), i, _, by omega, rfl, rfl, l1.1, l1.2, by have := HR.out; rw [fpw, if_neg cb] at this; exact this⟩
          case measure => first | (simp [intOf]; done) | (simp [intOf]; omega)

end Go.Proofs.YtholhpmnicibgaaGreat
/- Layer 17, plainly: what a step does. No program in it. -/
namespace Go.Proofs.YtholhpmnicibgaaGreat
set_option linter.unusedVariables false
set_option linter.unusedSimpArgs false

/-- What a slot or a register holds. -/
structure Hd where
  pats : List Int
  whole : Int
/-- A step under way. -/
structure Fr where
  nums : Nat → Int
  whs : Nat → Int
  vecs : Nat → List Int
  slots : List Hd
  outs : Nat → Nat → Int
def putN {α : Type} (f : Nat → α) (k : Nat) (x : α) : Nat → α := fun j => if j = k then x else f j
theorem putN_at {α : Type} (f : Nat → α) (k : Nat) (x : α) : putN f k x k = x := if_pos rfl
theorem putN_ne {α : Type} (f : Nat → α) {k j : Nat} (x : α) (h : j ≠ k) : putN f k x j = f j := if_neg h
theorem putN_all {α : Type} {Q : α → Prop} {f : Nat → α} {k : Nat} {x : α} (h : ∀ j, Q (f j)) (hx : Q x) (j : Nat) : Q (putN f k x j) := by
  unfold putN; split
  · exact hx
  · exact h j

def lenOf (c : Cd) (p : Int) : Nat := ((c.sign[p.toNat]?).map fun q => q.len.toNat).getD 0
def apartP (c : Cd) (p : Int) : Nat := if kindOf c.sign p = 2 then 2 else 1
def widthP (c : Cd) (t : Ty) : Nat := if t.kind = 3 then lenOf c t.par else if t.kind = 1 then 1 else 0
def fillP (c : Cd) (t : Ty) (a : Int) : List Int := List.replicate (widthP c t) (canon a)
def begunP (c : Cd) (s : Sl) : Hd := ⟨fillP c s.ty s.bits, s.int_⟩
def rdP (c : Cd) (f : Fr) (r : Int) : Hd :=
  if (regT c.regs r).kind = 1 then ⟨[f.nums r.toNat], 0⟩ else if (regT c.regs r).kind = 2 then ⟨[], f.whs r.toNat⟩ else ⟨f.vecs r.toNat, 0⟩
def stP (c : Cd) (f : Fr) (r : Int) (h : Hd) : Fr :=
  if (regT c.regs r).kind = 1 then { f with nums := putN f.nums r.toNat (h.pats.headD 0) }
  else if (regT c.regs r).kind = 2 then { f with whs := putN f.whs r.toNat h.whole }
  else { f with vecs := putN f.vecs r.toNat h.pats }
def atL (l : List Int) (j : Nat) : Int := (l[j]?).getD 0
def vecAt (vs : List (List Int)) (p : Nat) : List Int := (vs[p]?).getD []
def partP (c : Cd) (vs : List (List Int)) (i : Ins) : List Int :=
  (List.range (lenOf c (regT c.regs i.d).par)).map fun e => canon (atL (vecAt vs (regT c.regs i.d).par.toNat) (apartP c (regT c.regs i.d).par * e + i.n.toNat))
def outP (o : Nat → Nat → Int) (p k n : Nat) (l : List Int) : Nat → Nat → Int :=
  fun q j => if q = p ∧ j % k = n ∧ j / k < l.length then atL l (j / k) else o q j
def lF (args : List (List Int)) (i : Nat) : Nat := (vecAt args i).length
def xF (args : List (List Int)) (i j : Nat) : Int := atL (vecAt args i) j
def appP (op : Int) (args : List (List Int)) : List Int :=
  match shpV (lF args) (args.length - 1) with
  | some n => (List.range n).map fun i => opf op (elAt (lF args) (xF args) args.length i 0) (elAt (lF args) (xF args) args.length i 1) (elAt (lF args) (xF args) args.length i 2)
  | none => []
def argsP (c : Cd) (f : Fr) (i : Ins) : List (List Int) := (readsP i (rowP i.op)).map fun r => (rdP c f r).pats
def elemI (c : Cd) (f : Fr) (i : Ins) : Fr :=
  if (regT c.regs i.d).kind = 2 then { f with whs := putN f.whs i.d.toNat (f.whs i.a.toNat) }
  else stP c f i.d ⟨if (appP i.op (argsP c f i)).length < widthP c (regT c.regs i.d) then fillP c (regT c.regs i.d) ((appP i.op (argsP c f i)).headD 0) else appP i.op (argsP c f i), 0⟩
def numI (f : Fr) (i : Ins) : Int :=
  if i.op = 16 then fpow (f.nums i.a.toNat) (f.whs i.b.toNat) else if i.op = 17 then ffrom (f.whs i.a.toNat)
  else if i.op = 19 then fsum (atL (f.vecs i.a.toNat)) (f.vecs i.a.toNat).length else if i.op = 20 then fleast (atL (f.vecs i.a.toNat)) (f.vecs i.a.toNat).length else i.bits
def one01 (b : Bool) : Int := if b then 1 else 0
def wholeI (f : Fr) (i : Ins) : Int :=
  if i.op = 18 then one01 (fsel (f.nums i.a.toNat) 1065353216 0 == 1065353216)
  else if i.op = 21 then min (f.whs i.a.toNat) 2147483646 + 1
  else if i.op = 22 then one01 (decide (f.whs i.a.toNat < f.whs i.b.toNat))
  else if i.op = 23 then one01 (f.whs i.a.toNat == f.whs i.b.toNat)
  else if i.op = 24 then one01 (f.whs i.a.toNat != 0 && f.whs i.b.toNat != 0)
  else if i.op = 25 then one01 (f.whs i.a.toNat == 0)
  else if i.op = 26 then (if f.whs i.a.toNat = 0 then f.whs i.c.toNat else f.whs i.b.toNat)
  else if i.op = 27 then max (f.whs i.a.toNat - f.whs i.b.toNat) 0
  else if i.op = 28 then (if f.whs i.b.toNat = 0 then 0 else f.whs i.a.toNat / f.whs i.b.toNat)
  else i.n
def isNum (op : Int) : Bool := op == 1 || op == 16 || op == 17 || op == 19 || op == 20
def isWhole (op : Int) : Bool := op == 2 || op == 18 || (decide (21 ≤ op) && decide (op ≤ 28))
/-- An instruction that is not left out. -/
def doI (c : Cd) (G P : List (List Int)) (f : Fr) (i : Ins) : Fr :=
  if isNum i.op then { f with nums := putN f.nums i.d.toNat (numI f i) }
  else if isWhole i.op then { f with whs := putN f.whs i.d.toNat (wholeI f i) }
  else if i.op = 29 then { f with vecs := putN f.vecs i.d.toNat (partP c G i) }
  else if i.op = 30 then { f with vecs := putN f.vecs i.d.toNat (partP c P i) }
  else if i.op = 31 then { f with outs := outP f.outs (regT c.regs i.a).par.toNat (apartP c (regT c.regs i.a).par) i.n.toNat (f.vecs i.a.toNat) }
  else if i.op = 32 then stP c f i.d ((f.slots[i.n.toNat]?).getD ⟨[], 0⟩)
  else if i.op = 33 then { f with slots := f.slots.set i.n.toNat (rdP c f i.a) }
  else if 34 ≤ i.op ∧ i.op ≤ 37 then f
  else elemI c f i
/-- One instruction; k: the blocks that are left out. -/
def nextI (c : Cd) (G P : List (List Int)) (s : Fr × Nat) (i : Ins) : Fr × Nat :=
  if 0 < s.2 ∧ i.op = 35 then (s.1, s.2 - 1)
  else if i.op = 34 ∧ (0 < s.2 ∨ s.1.whs i.a.toNat = 0) then (s.1, s.2 + 1)
  else if s.2 = 0 then (doI c G P s.1 i, 0) else s
def goI (c : Cd) (G P : List (List Int)) (s : Fr × Nat) (l : List Ins) : Fr × Nat := l.foldl (nextI c G P) s
def startH (c : Cd) : List Hd := c.slots.map (begunP c)
def numL (p : Par) : Nat := (numP p).toNat
def updP (c : Cd) (f : Fr) : List (List Int) := (List.range c.sign.length).map fun p => (List.range ((c.sign[p]?).elim 0 numL)).map (f.outs p)
def fits2 (c : Cd) (G P : List (List Int)) : Bool := fitsP c.sign (G.map (·.length)) && fitsP c.sign (P.map (·.length))

/- IN4: marks do nothing. -/
def isMark (i : Ins) : Bool := i.op == 36 || i.op == 37
theorem next_mark (c : Cd) (G P : List (List Int)) (s : Fr × Nat) {i : Ins} (h : isMark i = true) : nextI c G P s i = s := by
  obtain ⟨f, k⟩ := s
  unfold isMark at h
  simp only [Bool.or_eq_true, beq_iff_eq] at h
  have h0 : isNum i.op = false ∧ isWhole i.op = false := by
    unfold isNum isWhole
    rcases h with h | h <;> rw [h] <;> decide
  unfold nextI
  have e1 : ¬ (0 < k ∧ i.op = 35) := by omega
  have e2 : ¬ (i.op = 34 ∧ (0 < k ∨ f.whs i.a.toNat = 0)) := by omega
  simp only
  rw [if_neg e1, if_neg e2]
  split
  · rename_i hk
    subst hk
    unfold doI
    rw [h0.1, h0.2, if_neg (by decide), if_neg (by decide), if_neg (by omega), if_neg (by omega), if_neg (by omega), if_neg (by omega), if_neg (by omega), if_pos (by omega)]
  · rfl
theorem go_marks (c : Cd) (G P : List (List Int)) (l : List Ins) : ∀ s, goI c G P s (l.filter fun i => !isMark i) = goI c G P s l := by
  induction l with
  | nil => intro s; rfl
  | cons i l ih =>
    intro s
    cases hi : isMark i with
    | true =>
      rw [List.filter_cons_of_neg (by simp [hi]), ih]
      show _ = goI c G P (nextI c G P s i) l
      rw [next_mark c G P s hi]
    | false =>
      rw [List.filter_cons_of_pos (by simp [hi])]
      exact ih _
end Go.Proofs.YtholhpmnicibgaaGreat
