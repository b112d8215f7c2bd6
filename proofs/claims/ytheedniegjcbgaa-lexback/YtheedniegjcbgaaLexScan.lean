import Derived.Test.YtheedniegjcbgaaLexList
import Derived.OwnWalk
import Derived.Deep.AppendLies
import Derived.Maps.AppendAt
import Derived.Laws.AppendOwnNone
import Derived.Deep.DeepCutAuto
import Derived.Handy
/- Package lex: content, Scan. -/
namespace Go.Proofs.Ytheedniegjcbgaa
open Go.RowKit
set_option linter.unusedVariables false
set_option linter.unusedSimpArgs false

theorem bel {a b c : World} (h : Below a.heap.size a b) (k : Below b.heap.size b c) : Below a.heap.size a c := h.trans (k.mono h.size)
theorem bel0 (w : World) : Below w.heap.size w w := Below.refl _ _
theorem bel_alloc (w : World) (o : Obj) : Below w.heap.size w (w.alloc o) := (Below.refl _ _).alloc (Nat.le_refl _) o
theorem ret_str {a b : ByteArray} (h : a = b) : Ending.returned (.string a) = .returned (.string b) := by rw [h]

set_option maxHeartbeats 400000 in
theorem clone_any (s : ByteArray) (hs : s.size ≤ 65536) (w : World) :
    Calls Try.prog 38 #[.string s] w fun e w' => e = .returned (.string s) ∧ Below w.heap.size w w' := by
  go_enter Try.func38, Try.ntmps38
  go_wp2_with (go_at_call 49; refine (sh_stringslite_Clone s _ (by omega)).mono ?_; rintro e w1 ⟨rfl, hb⟩)
  go_ret
  exact ⟨rfl, hb⟩

/-- A token's text, of its bytes as a string. -/
def ctext (kind : Int) (t : ByteArray) : ByteArray := if kind == 4 then t.extract 1 (t.size - 1) else t
theorem ctext_size (kind : Int) (t : ByteArray) : (ctext kind t).size ≤ t.size := by
  unfold ctext
  split
  · rw [ByteArray.size_extract]; omega
  · exact Nat.le_refl _
theorem ctext_eq (kind : Int) (t : ByteArray) : ctext kind t = ⟨(textOf kind (bs t)).toArray⟩ := by
  unfold ctext textOf
  split
  · rw [of_bs (t.extract 1 (t.size - 1)), bs_extract, bs_length]
    congr 3
  · exact of_bs t

set_option maxRecDepth 100000 in
set_option maxHeartbeats 1000000 in
theorem content_any (kind : Int) (t : ByteArray) (ht : t.size ≤ 65536) (h4 : kind = 4 → 2 ≤ t.size) (w : World) :
    Calls Try.prog 19 #[.int .i64 kind, .string t] w fun e w' => e = .returned (.string (ctext kind t)) ∧ Below w.heap.size w w' := by
  by_cases hk : (kind == 4) = true
  · have h2 := h4 (by simpa using hk)
    have e : ctext kind t = t.extract 1 (t.size - 1) := by unfold ctext; rw [if_pos hk]
    have hz := ctext_size kind t
    rw [e] at hz ⊢
    have hx : (t.extract 1 (t.size - 1)).size ≤ 65536 := by omega
    have i1 : (1 : Int) ≤ (t.size : Int) - 1 := by omega
    clear h4 e hz
    go_enter Try.func19, Try.ntmps19
    go_wp2_with (go_at_call 38; refine (clone_any _ (by first | exact hx | (trace_state; fail)) _).mono ?_; rintro e w1 ⟨rfl, hb⟩)
    go_ret
    exact ⟨rfl, hb⟩
  · have e : ctext kind t = t := by unfold ctext; rw [if_neg hk]
    rw [e]
    clear h4 e
    go_enter Try.func19, Try.ntmps19
    go_wp2_with (go_at_call 38; refine (clone_any _ ht _).mono ?_; rintro e w1 ⟨rfl, hb⟩)
    go_ret
    exact ⟨rfl, hb⟩

theorem skip_at (s : ByteArray) (hs : s.size ≤ 65536) (x : Int) (i : Nat) (h : x = (i : Int)) (hi : i ≤ s.size) (w : World) :
    Calls Try.prog 17 #[.string s, .int .i64 x] w fun e w' => e = .returned (.int .i64 (skN s i)) ∧ w' = w ∧ (bs s).drop (skN s i) = skp false ((bs s).drop i) ∧ skN s i ≤ s.size := by
  subst h
  exact skip_any s hs i hi w
theorem skN_ge (s : ByteArray) (i : Nat) (hi : i ≤ s.size) : i ≤ skN s i := by
  have := skp_le false ((bs s).drop i)
  rw [drop_len] at this
  unfold skN
  omega

def tokCells (t : Tok) : List Value := [.int .i64 t.kind, .string ⟨t.text.toArray⟩, .int .i64 (t.at_ : Int)]
def cellsOf (l : List Tok) : List Value := l.flatMap tokCells
theorem cellsOf_snoc (l : List Tok) (t : Tok) : cellsOf (l ++ [t]) = cellsOf l ++ tokCells t := by simp [cellsOf]

/-- A list of tokens that the call owns. -/
def Own (w : World) (B : Nat) (v : Value) (l : List Tok) : Prop := w.ownsRow B 34 3 v l.length (cellsOf l)
theorem Own.below {w w' : World} {B : Nat} {v : Value} {l : List Tok} (h : Own w B v l) (k : Below w.heap.size w w') : Own w' B v l := by
  refine World.ownsRow.kept h (row := none) ⟨k.os, k.tape, k.output, k.size, fun j hj _ => k.block j hj⟩ ?_
  cases v.ownBlock <;> simp
theorem own_nil (w : World) (B : Nat) : Own w B (.slice none 0 0) [] := World.ownsRow_nil w B _ 3

theorem info_Token : (Try.prog.info? 34).map (fun i => (i.zero, i.size, i.bytes)) = some (some (.agg #[.int .i64 0, .string ⟨#[]⟩, .int .i64 0]), 3, 32) := by kernel_rfl

theorem scan_long (l : Bs) (h : l.length > 65536) : scanP l = ⟨[], 2, 0⟩ := by unfold scanP; rw [if_pos h]
theorem scan_err {l : Bs} (h : l.length ≤ 65536) (he : (scan0 l).err ≠ 0) : scanP l = ⟨[], (scan0 l).err, (scan0 l).place⟩ := by unfold scanP; rw [if_neg (by omega), if_pos he]
theorem scan_ok {l : Bs} (h : l.length ≤ 65536) (he : (scan0 l).err = 0) : scanP l = ⟨(scan0 l).toks ++ [⟨0, [], l.length⟩], 0, 0⟩ := by unfold scanP; rw [if_neg (by omega), if_neg (by simpa using he)]

set_option maxRecDepth 100000 in
set_option maxHeartbeats 4000000 in
theorem scan_any (s : ByteArray) (hm : s.size ≤ maxLen) (w : World) :
    Calls Try.prog 9 #[.string s] w fun e w' => ∃ v, e = .returned (.tuple #[v, .int .i64 (scanP (bs s)).err, .int .i64 ((scanP (bs s)).place : Int)]) ∧ Own w' w.heap.size v (scanP (bs s)).toks ∧ Below w.heap.size w w' := by
  obtain ⟨i0, hi0, hz0, hz1, hz2⟩ := info_parts info_Token
  unfold maxLen at hm
  by_cases hlong : s.size > 65536
  · rw [scan_long (bs s) (by rw [bs_length]; exact hlong)]
    have i1 : (65536 : Int) < (s.size : Int) := by omega
    go_enter Try.func9, Try.ntmps9
    go_wp2
    go_ret3
    exact ⟨_, rfl, own_nil _ _, bel0 w⟩
  · have hs : s.size ≤ 65536 := by omega
    have i1 : (s.size : Int) ≤ 65536 := by omega
    have hst := soFar_start (bs s)
    have HST : Hid (SoFar (bs s) [] (skp false (bs s))) := hst
    clear hst
    go_enter Try.func9, Try.ntmps9
    go_wp2_with (go_at_call 17; refine (skip_any s hs 0 (by omega) _).mono ?_; rintro e w1 ⟨rfl, rfl, hd0, hle0⟩; have HD0 : Hid ((bs s).drop (skN s 0) = skp false ((bs s).drop 0)) := hd0; clear hd0)
    rename World => w
    obtain ⟨k0, hk0⟩ : ∃ k, skN s 0 = k := ⟨_, rfl⟩
    rw [hk0] at HD0 hle0 ⊢
    clear hk0
    go_loopw [5, 6] (fun lv av wr => Below w.heap.size w wr ∧ ∃ (j : Nat) (acc : List Tok) (ov : Value), ov = lv ∧ j ≤ s.size ∧ av = .int .i64 j ∧ acc.length ≤ j ∧ Own wr w.heap.size ov acc ∧ SoFar (bs s) acc ((bs s).drop j)) (fun _ av _ => s.size - (intOf av).toNat)
    case atStart => exact ⟨bel0 w, k0, [], _, rfl, hle0, rfl, Nat.zero_le _, own_nil _ _, by rw [HD0.out]; exact HST.out⟩
    case round =>
      obtain ⟨hb, j, acc, ov, rfl, hj, rfl, hac, hown, hsf⟩ := hrel
      have HS : Hid (SoFar (bs s) acc ((bs s).drop j)) := hsf
      have HO : Hid (Own wr w.heap.size ov acc) := hown
      clear hsf hown HST HD0
      by_cases hlt : j < s.size
      · have j1 : (j : Int) < (s.size : Int) := by omega
        have hne : (bs s).drop j ≠ [] := by rw [drop_at s j hlt]; simp
        have T1 := token_any s hs j hlt wr
        have ok := okay_tok _ hne
        have bd := tok_bounds _ hne
        rw [tok_eq] at T1
        obtain ⟨t, ht⟩ : ∃ t, tokL ((bs s).drop j) = t := ⟨_, rfl⟩
        rw [ht] at T1 ok bd
        have HT : Hid (tokL ((bs s).drop j) = t) := ht
        clear ht
        obtain ⟨K, L, E⟩ := t
        unfold ret3 toT3 at T1
        by_cases hE : E = 0
        · subst hE
          obtain ⟨o1, o2, o3, o4, o5⟩ := ok rfl
          simp only [if_true] at T1
          have o2' : L ≤ s.size - j := by rw [← drop_len]; exact o2
          have hnx := soFar_tok HS.out hne (by rw [HT.out])
          rw [HT.out, List.drop_drop] at hnx
          have hcx : ctext K (s.extract j (j + L)) = ⟨(textOf K (((bs s).drop j).take L)).toArray⟩ := by
            rw [ctext_eq, bs_extract, Nat.add_sub_cancel_left]
          have hxs : (s.extract j (j + L)).size = L := by rw [ByteArray.size_extract]; omega
          have C1 : ∀ v : World, Calls Try.prog 19 #[.int .i64 K, .string (s.extract j (j + L))] v fun e w' => e = .returned (.string (ctext K (s.extract j (j + L)))) ∧ Below v.heap.size v w' := fun v => content_any K _ (by rw [hxs]; omega) (by rw [hxs]; exact o5) v
          rw [hcx] at C1
          obtain ⟨X, hX⟩ : ∃ X : Bs, textOf K (((bs s).drop j).take L) = X := ⟨_, rfl⟩
          rw [hX] at C1 hnx
          have HN : Hid (SoFar (bs s) (acc ++ [⟨K, X, (bs s).length - ((bs s).drop j).length⟩]) (skp false ((bs s).drop (j + L)))) := hnx
          have HC : Hid (∀ v : World, Calls Try.prog 19 #[.int .i64 K, .string (s.extract j (j + L))] v fun e w' => e = .returned (.string ⟨X.toArray⟩) ∧ Below v.heap.size v w') := C1
          have H1 : Hid (Calls Try.prog 18 #[.string s, .int .i64 (j : Int)] wr fun e w' => e = .returned (.tuple #[.int .i64 K, .int .i64 ((j : Int) + L), .int .i64 0]) ∧ w' = wr) := T1
          clear T1 C1 hnx hX hcx hxs ok o2 HS
          have szr := hb.size
          go_wp2_with (first
            | ((with_reducible refine H1.out.mono ?_); rintro e w1 ⟨rfl, rfl⟩)
            | (go_at_call 19; refine (HC.out _).mono ?_; rintro e w2 ⟨rfl, hb2⟩; have HO2 : Hid (Own w2 w.heap.size ov acc) := HO.out.below hb2; have sz2 := hb2.size)
            | (at_builtin; refine wpList_append_own_at _ rfl _ _ 22 rfl w.heap.size 34 i0 _ 3 32 Try.underlying22 hi0 hz0 hz1 hz2 rfl (by decide) ov acc.length (cellsOf acc) rfl (World.ownsRow.alloc HO2.out _) ⟨w2.heap.size, 0, none⟩ 1 1 [.int .i64 K, .string ⟨X.toArray⟩, .int .i64 (j : Int)] rfl rfl (World.news_of_block (cs := #[.int .i64 K, .string ⟨X.toArray⟩, .int .i64 (j : Int)]) (t := 34) (fr := (0, 0)) (heap_alloc_new w2 _)) (by simp [Value.oneCell']) (by unfold maxLen; omega) (by omega) (by simp; omega) ?_; intro v' w3 hown3 hgrow hnil hat; have HO3 : Hid (w3.ownsRow w.heap.size 34 3 v' (acc.length + 1) (cellsOf acc ++ [.int .i64 K, .string ⟨X.toArray⟩, .int .i64 (j : Int)]) ∧ (w2.alloc (.cells #[.int .i64 K, .string ⟨X.toArray⟩, .int .i64 (j : Int)] 34)).grownBy w3 ov.ownBlock) := ⟨hown3, hgrow⟩; clear hown3 hgrow hnil hat)
            | (go_at_call 17; refine (skip_at s hs _ (j + L) (by omega) (by omega) _).mono ?_; rintro e w4 ⟨rfl, rfl, hd4, hle4⟩; have HD4 : Hid ((bs s).drop (skN s (j + L)) = skp false ((bs s).drop (j + L))) := hd4; clear hd4))
          go_roundw
          case rel =>
            obtain ⟨ho3, hgrow⟩ := HO3.out
            have hob := HO2.out.lt
            have h4 := skN_ge s (j + L) (by omega)
            refine ⟨Below.grown ((bel hb hb2).alloc (by omega) _) hgrow (by simp; omega) (fun q e => (hob q e).1), skN s (j + L), acc ++ [⟨K, X, j⟩], _, rfl, hle4, rfl, by simp; omega, ?_, ?_⟩
            · unfold Own
              rw [cellsOf_snoc, List.length_append]
              exact ho3
            · rw [HD4.out]
              have := HN.out
              rw [drop_len, bs_length, show s.size - (s.size - j) = j by omega] at this
              exact this
          case measure =>
            have h4 := skN_ge s (j + L) (by omega)
            simp [intOf]
            omega
        · have hE1 : (E == 0) = false := by simpa using hE
          have hE2 : (E != 0) = true := by simpa using hE
          rw [if_neg hE] at T1
          have H1 : Hid (Calls Try.prog 18 #[.string s, .int .i64 (j : Int)] wr fun e w' => e = .returned (.tuple #[.int .i64 K, .int .i64 0, .int .i64 E]) ∧ w' = wr) := T1
          clear T1 ok
          have HE : Hid (E ≠ 0) := hE
          clear hE
          go_wp2_with ((with_reducible refine H1.out.mono ?_); rintro e w1 ⟨rfl, rfl⟩)
          go_ret3
          have se := soFar_err HS.out hne (by rw [HT.out]; exact HE.out)
          rw [HT.out, drop_len, bs_length] at se
          rw [scan_err (by rw [bs_length]; exact hs) (by rw [se.1]; exact HE.out), se.1, se.2]
          exact ⟨_, by congr 4; simp; omega, own_nil _ _, hb⟩
      · have : j = s.size := by omega
        subst this
        have se := soFar_end (by have := HS.out; rw [drop_end s _ (Nat.le_refl _)] at this; exact this)
        have hfin := scan_ok (l := bs s) (by rw [bs_length]; exact hs) se.2.1
        rw [se.1, bs_length] at hfin
        have HF : Hid (scanP (bs s) = ⟨acc ++ [⟨0, [], s.size⟩], 0, 0⟩) := hfin
        clear se hfin
        have szr := hb.size
        go_wp2_with (first
          | (at_builtin; refine wpList_append_own_at _ rfl _ _ 22 rfl w.heap.size 34 i0 _ 3 32 Try.underlying22 hi0 hz0 hz1 hz2 rfl (by decide) ov acc.length (cellsOf acc) rfl (World.ownsRow.alloc HO.out _) ⟨wr.heap.size, 0, none⟩ 1 1 [.int .i64 0, .string ⟨#[]⟩, .int .i64 (s.size : Int)] rfl rfl (World.news_of_block (cs := #[.int .i64 0, .string ⟨#[]⟩, .int .i64 (s.size : Int)]) (t := 34) (fr := (0, 0)) (heap_alloc_new wr _)) (by simp [Value.oneCell']) (by unfold maxLen; omega) (by omega) (by simp; omega) ?_; intro v' w3 hown3 hgrow hnil hat; have HO3 : Hid (w3.ownsRow w.heap.size 34 3 v' (acc.length + 1) (cellsOf acc ++ [.int .i64 0, .string ⟨#[]⟩, .int .i64 (s.size : Int)]) ∧ (wr.alloc (.cells #[.int .i64 0, .string ⟨#[]⟩, .int .i64 (s.size : Int)] 34)).grownBy w3 ov.ownBlock) := ⟨hown3, hgrow⟩; clear hown3 hgrow hnil hat))
        go_ret3
        obtain ⟨ho3, hgrow⟩ := HO3.out
        have hob := HO.out.lt
        rw [HF.out]
        refine ⟨_, rfl, ?_, Below.grown (hb.alloc (by omega) _) hgrow (by simp; omega) (fun q e => (hob q e).1)⟩
        unfold Own
        rw [cellsOf_snoc, List.length_append]
        exact ho3

end Go.Proofs.Ytheedniegjcbgaa
