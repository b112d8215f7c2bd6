import Derived.Test.YtmiidhgbdecdkaaGreatPart9
import Derived.Laws.EntriesVeiled
namespace Go.Proofs.YtmiidhgbdecdkaaGreat
open Go.RowKit
open Go.Maps (Keyed)
set_option linter.unusedVariables false
set_option linter.unusedSimpArgs false
theorem litS_key {x : ByteArray} {kl : Lit} (h : keyOf Tryz.prog 9 (.string x) = some kl) : kl = litS x ∧ x.size ≤ maxLen := by
 obtain ⟨y, e1, e2, e3⟩ := WideMaps.string_of_keyOf Tryz.underlying9 h
 have : x = y := by simpa using e1
 subst this
 exact ⟨e2, e3⟩
theorem wpList_next_tab {w : World} {ops : Array Oper} {rest : List Oper} {o : Oper} {a : Act} {Q : Exit → Act → World → Prop}
  (hg : o.guard = none) (it : Operand) (hop : o.op = Op.next it false) (b r n : Nat) (D : DataW Value) (fs : ByteArray → Option Value) (hD : ∀ k zd, D.atKey (litS k) zd = match fs k with | some v => .held v | none => zd)
  (hsh : ∀ x v, fs x = some v → ∃ q n cc f x1 x2, v = .agg #[.slice q n cc, .func f x1 x2]) (left : Lit → Bool) (cnt : Nat)
  (hit : a.eval it = .pointer (some ⟨r, 0, none⟩)) (h : w.ranges Tryz.prog 9 hR b r n D left cnt)
  (hDone : cnt = 0 → (∀ kl, left kl = false) → wpList Tryz.prog ops Q rest (a.put o.dst (.tuple #[.bool false])) w)
  (hMore : ∀ (x : ByteArray) (q : Option Addr) (m cc : Nat) (f : Fn) (x1 x2 : Array Value) (w' : World) (cnt' : Nat), x.size ≤ maxLen → left (litS x) = true → fs x = some (.agg #[.slice q m cc, .func f x1 x2]) → w'.ranges Tryz.prog 9 hR b r n D (fun z => left z && !z.sameKey (litS x)) cnt' → cnt' < cnt →
   w.grownBy w' (some r) → w'.heap.size = w.heap.size → (Instr.entry (.pointer (some ⟨r, 0, none⟩))).run Tryz.prog w' = .ok (.tuple #[.string x, .agg #[.slice q m cc, .func f x1 x2]]) w' → wpList Tryz.prog ops Q rest (a.put o.dst (.tuple #[.bool true, .string x, .agg #[.slice q m cc, .func f x1 x2]])) w') :
  wpList Tryz.prog ops Q (o :: rest) a w := by
 refine wpList_next_ranges (α := ByteArray) (β := Value) w hg it hop 9 strK hR (fun x => .string x) (fun v => v) (fun key kl hk => ?_) (fun v y _ => ⟨v, rfl⟩) b r n D left cnt hit h hDone ?_
 ·obtain ⟨y, e1, e2, e3⟩ := WideMaps.string_of_keyOf Tryz.underlying9 hk
  exact ⟨y, e1⟩
 ·intro x c kl y w' cnt' hk hl hv hat hrg hlt hgr hsz hen
  obtain ⟨rfl, hxs⟩ := litS_key hk
  have hfx : fs x = some c := by
   have h1 := hat (.held c)
   rw [hD] at h1
   have h2 : y = (.held c, []) := (Option.some.inj hv).symm
   rw [h2] at h1
   cases hf : fs x with
   | none =>
    have h3 := hat .nil
    rw [hD, hf, h2] at h3
    cases h3
   | some v =>
    rw [hf] at h1
    simp only [DataW.held.injEq] at h1
    rw [h1]
  obtain ⟨q, m, cc, f, x1, x2, rfl⟩ := hsh x c hfx
  exact hMore x q m cc f x1 x2 w' cnt' hxs hl hfx hrg hlt hgr hsz hen
def mixF (fd fs : ByteArray → Option Value) (left : Lit → Bool) : ByteArray → Option Value := fun k => if (fs k).isSome && !left (litS k) then fs k else fd k
theorem mix_step {fd fs : ByteArray → Option Value} {left : Lit → Bool} {x : ByteArray} {v : Value} (h : fs x = some v) : updF (mixF fd fs left) x v = mixF fd fs (fun z => left z && !z.sameKey (litS x)) := by
 funext k
 unfold updF mixF
 by_cases e : k = x
 ·subst e
  have : (litS k).sameKey (litS k) = true := by unfold litS; simp [Lit.sameKey]
  simp [this, h]
 ·have : (litS k).sameKey (litS x) = false := Maps.sameKey_ne fun he => e (litS_inj he)
  simp [this, e]
theorem mix_end {fd fs : ByteArray → Option Value} {left : Lit → Bool} (h : ∀ kl, left kl = false) : mixF fd fs left = fun k => (fs k).or (fd k) := by
 funext k
 unfold mixF
 rw [h]
 cases fs k <;> simp
theorem new_row (w : World) : ∃ W, w.alloc (.cells #[.slice none 0 0, .nilFunc] 47) = W ∧ W.heap[w.heap.size]? = some (.cells #[.slice none 0 0, .nilFunc] 47) ∧ Below w.heap.size w W :=
 ⟨_, rfl, box_heapA _ _, (Below.refl _ _).alloc (Nat.le_refl _) _⟩
theorem MapF.mono {w : World} {b n m : Nat} {f : ByteArray → Option Value} (h : MapF w b n f) (hn : n ≤ m) : MapF w b m f := by
 obtain ⟨D, h1, h2⟩ := h
 exact ⟨D, h1.mono hn, h2⟩
set_option maxRecDepth 100000 in
set_option maxHeartbeats 2000000 in
theorem copy_any (bd bs nd ns : Nat) (fd fs : ByteArray → Option Value) (w : World) (hd : MapF w bd nd fd) (hs : MapF w bs ns fs) (hne : bd ≠ bs) (hnn : nd + ns ≤ 1000) (hsh : ∀ x v, fs x = some v → ∃ q n cc f x1 x2, v = .agg #[.slice q n cc, .func f x1 x2]) :
  Calls Tryz.prog 33 #[.map (some bd), .map (some bs)] w fun e w' => (∃ v, e = .returned v) ∧ MapF w' bd (nd + ns) (fun k => (fs k).or (fd k)) ∧ w.grownBy w' (some bd) := by
 obtain ⟨D, hown, hD⟩ := hs
 have hsz : Maps.size D ≤ ns := by
  obtain ⟨es, clock, h0, h1, h2, rfl⟩ := hown
  rw [Maps.size_eq, length_sorted]
  simpa using h2
 have hbl := hd.lt
 have hsl := hown.lt
 have HD0 : Hid (∀ k zd, D.atKey (litS k) zd = match fs k with | some v => .held v | none => zd) := hD
 have HSH : Hid (∀ x v, fs x = some v → ∃ q n cc f x1 x2, v = .agg #[.slice q n cc, .func f x1 x2]) := hsh
 have HD : Hid (MapF w bd nd fd) := hd
 have HHAS : Hid (∀ k, Maps.has D (litS k) = (fs k).isSome) := fun k => MapF.has hD k
 clear hd hD hsh
 go_enter Tryz.func33, Tryz.ntmps33
 go_wp2_with (first
  | (at_range; refine wpList_range_own _ rfl _ 43 rfl 9 47 strK Tryz.underlying43 _ bs ns _ rfl hown ?_; intro w0 hrg0 hg0 hs0)
  | go_in)
 go_frame
 have HG0 : Hid (w.grownBy w0 none ∧ w0.heap.size = w.heap.size + 1) := ⟨hg0, hs0⟩
 go_loopw [8] (fun _ wr => ∃ (left : Lit → Bool) (cnt : Nat), wr.ranges Tryz.prog 9 hR bs w.heap.size ns D left cnt ∧ Hid (∃ n', MapF wr bd n' (mixF fd fs left) ∧ n' + cnt ≤ nd + ns ∧ w.grownBy wr (some bd) ∧ w.heap.size < wr.heap.size)) (fun _ wr => wr.rangeLeft bs w.heap.size)
 case atStart =>
  refine ⟨Maps.has D, Maps.size D, hrg0, nd, ?_, by omega, hg0.but _, by omega⟩
  have e : mixF fd fs (Maps.has D) = fd := by
   funext k
   unfold mixF
   rw [HHAS.out]
   cases fs k <;> simp
  rw [e]
  exact HD.out.kept hg0 (by simp)
 case round =>
  obtain ⟨left, cnt, hrg, HS⟩ := hrel
  obtain ⟨n', hm, hn', hgr, hwl⟩ := HS.out
  clear HS HG0 hg0 hs0 hrg0
  have HM : Hid (MapF wr bd n' (mixF fd fs left)) := hm
  have HGR : Hid (w.grownBy wr (some bd) ∧ w.heap.size < wr.heap.size ∧ n' + cnt ≤ nd + ns) := ⟨hgr, hwl, hn'⟩
  clear hm hgr
  go_wp2_with (first
   | (at_next; refine wpList_next_tab rfl _ rfl bs w.heap.size ns D fs HD0.out HSH.out left cnt rfl hrg ?_ ?_)
   | go_in)
  ·intro hc0 hl0
   go_wp2
   refine bodyPost_end (by simp [results, Tryz.results33, go_sem]; try rfl) rfl ?_
   refine ⟨⟨_, rfl⟩, ?_, HGR.out.1⟩
   rw [← mix_end hl0]
   exact HM.out.mono (by have := HGR.out.2.2; omega)
  ·intro x q m cc f x1 x2 w1 cnt1 hxs hlx hfx hrg1 hlt1 hg1 hs1 hen
   obtain ⟨W, hW, hX, hB⟩ := new_row w1
   obtain ⟨⟨u0, u1⟩, v0, v1⟩ := twoC hX
   have HX : Hid (W.heap[w1.heap.size]? = some (.cells #[.slice none 0 0, .nilFunc] 47)) := hX
   have HB : Hid (Below w1.heap.size w1 W) := hB
   have HM1 : Hid (MapF w1 bd n' (mixF fd fs left)) := HM.out.kept hg1 (fun e => by have := Option.some.inj e; omega)
   have HG1 : Hid (wr.grownBy w1 (some w.heap.size)) := hg1
   have HRG1 : Hid (w1.ranges Tryz.prog 9 hR bs w.heap.size ns D (fun z => left z && !z.sameKey (litS x)) cnt1 ∧ cnt1 < cnt) := ⟨hrg1, hlt1⟩
   have HRG : Hid (wr.ranges Tryz.prog 9 hR bs w.heap.size ns D left cnt) := hrg
   have HFX : Hid (fs x = some (.agg #[.slice q m cc, .func f x1 x2]) ∧ x.size ≤ maxLen) := ⟨hfx, hxs⟩
   clear hX hB hrg1 hg1 hlt1 hrg hfx hxs hs1
   go_upto_region 3 with fail
   have hXU := put_twoC HX.out (.slice q m cc) (.func f x1 x2)
   have hBU : Below w1.heap.size w1 ((W.setCell ⟨w1.heap.size, 0, none⟩ (.slice q m cc)).setCell ⟨w1.heap.size, 1, none⟩ (.func f x1 x2)) := below_at (below_at HB.out (Nat.le_refl _) _ _) (Nat.le_refl _) _ _
   obtain ⟨U, hU⟩ : ∃ U, (W.setCell ⟨w1.heap.size, 0, none⟩ (.slice q m cc)).setCell ⟨w1.heap.size, 1, none⟩ (.func f x1 x2) = U := ⟨_, rfl⟩
   rw [hU] at hXU hBU ⊢
   clear u0 u1 v0 v1
   obtain ⟨⟨u0, u1⟩, -⟩ := twoC hXU
   have hgU : w1.grownBy U none := ⟨hBU.os, hBU.tape, hBU.output, hBU.size, fun j hj _ => hBU.block j hj⟩
   obtain ⟨w3, hrun, hm3, hg3⟩ := (HM1.out.below hBU).put (by unfold maxLen; have := HGR.out.2.2; omega) Tryz.underlying43 HFX.out.2 (.agg #[.slice q m cc, .func f x1 x2])
   have HF : Hid (∃ n', MapF w3 bd n' (mixF fd fs (fun z => left z && !z.sameKey (litS x))) ∧ n' + cnt1 ≤ nd + ns ∧ w.grownBy w3 (some bd) ∧ w.heap.size < w3.heap.size) := by
    refine ⟨n' + 1, by rw [← mix_step HFX.out.1]; exact hm3, by have := HGR.out.2.2; have := HRG1.out.2; omega, ?_, by have := HG1.out.size; have := hBU.size; have := hg3.size; have := HGR.out.2.1; omega⟩
    exact ((HGR.out.1.andThen HG1.out (fun j hj => by have := Option.some.inj hj; exact .inl (by omega))).andThen hgU (fun j hj => by cases hj)).andThen hg3 (fun j hj => .inr hj)
   have HR3 : Hid (w3.ranges Tryz.prog 9 hR bs w.heap.size ns D (fun z => left z && !z.sameKey (litS x)) cnt1) := (HRG1.out.1.kept hgU (by simp) (by simp)).kept hg3 (fun e => by have := Option.some.inj e; omega) (fun e => by have := Option.some.inj e; omega)
   clear hU hXU hBU hgU hm3 hg3 hen
   go_wp2
   go_roundw
   case rel => exact ⟨_, cnt1, HR3.out, HF.out⟩
   case measure => rw [HR3.out.left_eq, HRG.out.left_eq]; exact HRG1.out.2
end Go.Proofs.YtmiidhgbdecdkaaGreat
namespace Go.Proofs.YtmiidhgbdecdkaaGreat
open Go.RowKit
set_option linter.unusedVariables false
set_option linter.unusedSimpArgs false
def allE : List Rent := plainE ++ otherE
theorem FvOK.shape {w : World} {fv : Value} {k : Bk} (h : FvOK w fv k) : ∃ f x1 x2, fv = .func f x1 x2 := by
 cases k with
 | fn k => exact ⟨_, _, _, h⟩
 | sc nm ns =>
  obtain ⟨a1, a2, qq, cc, h1, -⟩ := h
  exact ⟨_, _, _, h1⟩
theorem TabF.shape {w : World} {f : ByteArray → Option Value} {E : List Rent} (h : TabF w f E) (x : ByteArray) (v : Value) (hv : f x = some v) : ∃ q n cc f x1 x2, v = .agg #[.slice q n cc, .func f x1 x2] := by
 obtain ⟨e, -, -, q, c, fv, h1, -, h3⟩ := h.1 x v hv
 obtain ⟨g, x1, x2, rfl⟩ := h3.shape
 exact ⟨q, _, c, g, x1, x2, h1⟩
theorem TabF.or {w : World} {f g : ByteArray → Option Value} {E F : List Rent} (h : TabF w f E) (k : TabF w g F) : TabF w (fun x => (g x).or (f x)) (E ++ F) := by
 refine ⟨fun nm v hv => ?_, fun e he => ?_⟩
 ·cases hg : g nm with
  | some u =>
   simp only [hg, Option.some_or] at hv
   obtain ⟨e, h1, h2, h3⟩ := k.1 nm v (by rw [hg]; exact hv)
   exact ⟨e, List.mem_append_right _ h1, h2, h3⟩
  | none =>
   simp only [hg, Option.none_or] at hv
   obtain ⟨e, h1, h2, h3⟩ := h.1 nm v hv
   exact ⟨e, List.mem_append_left _ h1, h2, h3⟩
 ·show ∃ v, (g e.1).or (f e.1) = some v
  rcases List.mem_append.1 he with he | he
  ·obtain ⟨v, hv⟩ := h.2 e he
   cases hg : g e.1 with
   | some u => exact ⟨u, rfl⟩
   | none => exact ⟨v, by rw [hv]; rfl⟩
  ·obtain ⟨v, hv⟩ := k.2 e he
   exact ⟨v, by rw [hv]; rfl⟩
def Tab (w : World) (b : Nat) : Prop := ∃ n f, n ≤ 1000 ∧ MapF w b n f ∧ TabF w f allE
theorem Tab.below {w w' : World} {b : Nat} (h : Tab w b) (k : Below w.heap.size w w') : Tab w' b := by
 obtain ⟨n, f, h1, h2, h3⟩ := h
 exact ⟨n, f, h1, h2.below k, h3.kp (Kp.of k)⟩
set_option maxRecDepth 100000 in
set_option maxHeartbeats 1000000 in
theorem table_any (w : World) :
  Calls Tryz.prog 15 #[] w fun e w' => ∃ b, e = .returned (.map (some b)) ∧ Tab w' b ∧ w.heap.size ≤ b ∧ Below w.heap.size w w' := by
 have HP : Hid (∀ x : World, Calls Tryz.prog 32 #[] x fun e w' => ∃ b, e = .returned (.map (some b)) ∧ Inv x w' b plainE) := fun x => plain_rows x
 have HO : Hid (∀ x : World, Calls Tryz.prog 34 #[] x fun e w' => ∃ b, e = .returned (.map (some b)) ∧ Inv x w' b otherE) := fun x => other_rows x
 have HC : Hid (∀ (x y : World) (b c : Nat), Inv w x b plainE → Inv x y c otherE → Calls Tryz.prog 33 #[.map (some b), .map (some c)] y fun e w' => (∃ v, e = .returned v) ∧ Tab w' b ∧ w.heap.size ≤ b ∧ Below w.heap.size w w') := fun x y b c h1 h2 => by
  obtain ⟨h1a, h1b, n1, f1, h1c, h1d, h1e, h1f⟩ := h1
  obtain ⟨h2a, h2b, n2, f2, h2c, h2d, h2e, h2f⟩ := h2
  have hb := h1e.lt
  refine (copy_any b c n1 n2 f1 f2 y (h1e.below h2a) h2e (by omega) (by omega) (fun z v hz => h2f.shape z v hz)).mono fun e w' ⟨he, hm, hg⟩ => ⟨he, ⟨_, _, by omega, hm, ?_⟩, h1b, ?_⟩
  ·exact ((h1f.kp (Kp.of h2a)).or h2f).kp (Kp.map (h1e.below h2a) hg)
  ·have hbw := bel h1a h2a
   exact ⟨hg.os.trans hbw.os, hg.tape.trans hbw.tape, hg.output.trans hbw.output, Nat.le_trans hbw.size hg.size, fun j hj => (hg.block j (by have := hbw.size; omega) (fun e => by have : j = b := Option.some.inj e; omega)).trans (hbw.block j hj)⟩
 go_enter Tryz.func15, Tryz.ntmps15
 go_wp2_with (first
  | (go_at_call 32; (with_reducible refine (HP.out _).mono ?_); rintro e v1 ⟨b1, rfl, hi1⟩; have HI1 : Hid (Inv w v1 b1 plainE) := hi1; clear hi1)
  | (go_at_call 34; (with_reducible refine (HO.out _).mono ?_); rintro e v2 ⟨b2, rfl, hi2⟩; have HI2 : Hid (Inv v1 v2 b2 otherE) := hi2; clear hi2)
  | (go_at_call 33; (with_reducible refine (HC.out _ _ _ _ HI1.out HI2.out).mono ?_); rintro e v3 ⟨⟨ev, rfl⟩, ht3⟩; have HT3 : Hid (Tab v3 b1 ∧ w.heap.size ≤ b1 ∧ Below w.heap.size w v3) := ht3; clear ht3))
 refine bodyPost_ret (by simp [results, Tryz.results15, go_sem]; try rfl) rfl ?_
 exact ⟨b1, rfl, HT3.out⟩
def findE (t : Nd) : Option Rent := if t.kind = 1 then allE.find? (fun e => decide (e.1 = t.name)) else none
theorem find_key {E : List Rent} (hn : (E.map fun e => e.1).Nodup) {e : Rent} (he : e ∈ E) {nm : ByteArray} (h : e.1 = nm) : E.find? (fun x => decide (x.1 = nm)) = some e := by
 induction E with
 | nil => cases he
 | cons x E ih =>
  rw [List.map_cons, List.nodup_cons] at hn
  by_cases c : x.1 = nm
  ·rw [List.find?_cons_of_pos (by simpa using c)]
   rcases List.mem_cons.1 he with rfl | he
   ·rfl
   ·exact absurd (List.mem_map.2 ⟨e, he, h.trans c.symm⟩) hn.1
  ·rw [List.find?_cons_of_neg (by simpa using c)]
   rcases List.mem_cons.1 he with rfl | he
   ·exact absurd h c
   ·exact ih hn.2 he
theorem find_nokey {E : List Rent} {nm : ByteArray} (h : ∀ e ∈ E, e.1 ≠ nm) : E.find? (fun x => decide (x.1 = nm)) = none := by
 rw [List.find?_eq_none]
 intro x hx
 simpa using h x hx
theorem all_nodup : (allE.map fun e => e.1).Nodup := by decide
theorem zero_row (w : World) : (zeroValue 47).run Tryz.prog w = .ok (.agg #[.slice none 0 0, .nilFunc]) w := by kernel_rfl
theorem Tab.look {w : World} {b : Nat} (h : Tab w b) {nm : ByteArray} (hk : nm.size ≤ maxLen) :
  (∃ e q c f x1 x2, allE.find? (fun x => decide (x.1 = nm)) = some e ∧ RowE w (.agg #[.slice q e.2.1.length c, .func f x1 x2]) e ∧ ∀ x, Below w.heap.size w x → (Instr.lookup 43 (.map (some b)) (.string nm) true).run Tryz.prog x = .ok (.tuple #[.agg #[.slice q e.2.1.length c, .func f x1 x2], .bool true]) x) ∨
  (allE.find? (fun x => decide (x.1 = nm)) = none ∧ ∀ x, Below w.heap.size w x → (Instr.lookup 43 (.map (some b)) (.string nm) true).run Tryz.prog x = .ok (.tuple #[.agg #[.slice none 0 0, .nilFunc], .bool false]) x) := by
 obtain ⟨n, f, h1, h2, h3⟩ := h
 have hr := fun (x : World) (k : Below w.heap.size w x) => (h2.below k).look2 Tryz.underlying43 (zero_row x) hk
 cases hf : f nm with
 | some v =>
  obtain ⟨e, k1, k2, k3⟩ := h3.1 nm v hf
  obtain ⟨q, c, fv, rfl, k4, k5⟩ := k3
  obtain ⟨g, x1, x2, rfl⟩ := k5.shape
  simp only [hf] at hr
  exact .inl ⟨e, q, c, g, x1, x2, find_key all_nodup k1 k2, ⟨q, c, _, rfl, k4, k5⟩, hr⟩
 | none =>
  simp only [hf] at hr
  refine .inr ⟨find_nokey fun e he hh => ?_, hr⟩
  obtain ⟨v, hv⟩ := h3.2 e he
  rw [hh, hf] at hv
  cases hv
set_option maxRecDepth 100000 in
set_option maxHeartbeats 2000000 in
theorem tfind_any (b bt ot : Nat) (t : Nd) (w : World) (hk : t.name.size ≤ maxLen) (ht : Tab w b) (hn : NodeA w anyH bt ot t) :
  Calls Tryz.prog 46 #[.map (some b), .pointer (some ⟨bt, ot, none⟩)] w fun e w' => Below w.heap.size w w' ∧ ((∃ en q c f x1 x2, findE t = some en ∧ RowE w' (.agg #[.slice q en.2.1.length c, .func f x1 x2]) en ∧ e = .returned (.tuple #[.agg #[.slice q en.2.1.length c, .func f x1 x2], .bool true])) ∨ (findE t = none ∧ e = .returned (.tuple #[.agg #[.slice none 0 0, .nilFunc], .bool false]))) := by
 obtain ⟨W, hW, hX, hB⟩ := new_row w
 obtain ⟨e0, e1, -⟩ := hn.below hB
 have hlk := ht.look hk
 obtain ⟨⟨u0, u1⟩, v0, v1⟩ := twoC hX
 have HB : Hid (Below w.heap.size w W) := hB
 have HX : Hid (W.heap[w.heap.size]? = some (.cells #[.slice none 0 0, .nilFunc] 47)) := hX
 clear ht hn hX hB hk
 by_cases hk1 : t.kind = 1
 ·have HF : Hid (findE t = allE.find? (fun x => decide (x.1 = t.name))) := by show _ = _; unfold findE; rw [if_pos hk1]
  rw [hk1] at e0
  obtain ⟨nm, hnm⟩ : ∃ nm, t.name = nm := ⟨_, rfl⟩
  rw [hnm] at e1 hlk HF
  clear hk1 hnm u0 u1 v0 v1
  rcases hlk with ⟨en, q, c, f, x1, x2, hfe, hre, hrn⟩ | ⟨hfe, hrn⟩
  ·have hrun := hrn W HB.out
   have HR : Hid (findE t = some en ∧ RowE w (.agg #[.slice q en.2.1.length c, .func f x1 x2]) en) := ⟨HF.out.trans hfe, hre⟩
   obtain ⟨Ln, hLn⟩ : ∃ n, en.2.1.length = n := ⟨_, rfl⟩
   have HLN : Hid (en.2.1.length = Ln) := hLn
   rw [hLn] at hrun
   clear HF hfe hre hLn hrn
   obtain ⟨W3, hW3, hX3, hB3⟩ := new_row W
   obtain ⟨⟨u0, u1⟩, v0, v1⟩ := twoC hX3
   have HX3 : Hid (W3.heap[W.heap.size]? = some (.cells #[.slice none 0 0, .nilFunc] 47)) := hX3
   have HB3 : Hid (Below W.heap.size W W3) := hB3
   clear hX3 hB3
   go_enter Tryz.func46, Tryz.ntmps46
   go_upto_region 4 with fail
   have hXU := put_twoC HX3.out (.slice q Ln c) (.func f x1 x2)
   have hBU : Below W.heap.size W ((W3.setCell ⟨W.heap.size, 0, none⟩ (.slice q Ln c)).setCell ⟨W.heap.size, 1, none⟩ (.func f x1 x2)) := below_at (below_at HB3.out (Nat.le_refl _) _ _) (Nat.le_refl _) _ _
   obtain ⟨G, hG⟩ : ∃ G, W.heap.size = G := ⟨_, rfl⟩
   obtain ⟨U, hU⟩ : ∃ U, (W3.setCell ⟨W.heap.size, 0, none⟩ (.slice q Ln c)).setCell ⟨W.heap.size, 1, none⟩ (.func f x1 x2) = U := ⟨_, rfl⟩
   rw [hU] at hXU hBU ⊢
   rw [hG] at hXU ⊢
   have hRU := (hBU.block _ (hlt HX.out)).trans HX.out
   have HRE : Hid (Below w.heap.size w U) := bel HB.out hBU
   have HRU : Hid (U.heap[w.heap.size]? = some (.cells #[.slice none 0 0, .nilFunc] 47)) := hRU
   clear u0 u1 v0 v1
   obtain ⟨⟨u0, u1⟩, -⟩ := twoC hXU
   obtain ⟨⟨s0, s1⟩, r0, r1⟩ := twoC hRU
   clear hXU hBU hU hG hRU hW3 hW e0 e1 hrun HX3 HB3
   go_wp2
   refine bodyPost_ret (by simp [results, Tryz.results46, go_sem, s0, s1, r0, r1]; try rfl) rfl ?_
   have hbE := below_at (below_at HRE.out (Nat.le_refl _) 0 (.slice q Ln c)) (Nat.le_refl _) 1 (.func f x1 x2)
   exact ⟨hbE, .inl ⟨en, q, c, f, x1, x2, HR.out.1, HR.out.2.kp (Kp.of hbE), by rw [HLN.out]⟩⟩
  ·have hrun := hrn W HB.out
   have HN : Hid (findE t = none) := HF.out.trans hfe
   clear HF hfe hrn
   obtain ⟨W3, hW3, hX3, hB3⟩ := new_row W
   obtain ⟨⟨u0, u1⟩, v0, v1⟩ := twoC hX3
   have HX3 : Hid (W3.heap[W.heap.size]? = some (.cells #[.slice none 0 0, .nilFunc] 47)) := hX3
   have HB3 : Hid (Below W.heap.size W W3) := hB3
   clear hX3 hB3
   go_enter Tryz.func46, Tryz.ntmps46
   go_upto_region 4 with fail
   have hXU := put_twoC HX3.out (.slice none 0 0) .nilFunc
   have hBU : Below W.heap.size W ((W3.setCell ⟨W.heap.size, 0, none⟩ (.slice none 0 0)).setCell ⟨W.heap.size, 1, none⟩ .nilFunc) := below_at (below_at HB3.out (Nat.le_refl _) _ _) (Nat.le_refl _) _ _
   obtain ⟨G, hG⟩ : ∃ G, W.heap.size = G := ⟨_, rfl⟩
   obtain ⟨U, hU⟩ : ∃ U, (W3.setCell ⟨W.heap.size, 0, none⟩ (.slice none 0 0)).setCell ⟨W.heap.size, 1, none⟩ .nilFunc = U := ⟨_, rfl⟩
   rw [hU] at hXU hBU ⊢
   rw [hG] at hXU ⊢
   have hRU := (hBU.block _ (hlt HX.out)).trans HX.out
   have HRE : Hid (Below w.heap.size w U) := bel HB.out hBU
   clear u0 u1 v0 v1
   obtain ⟨⟨u0, u1⟩, -⟩ := twoC hXU
   obtain ⟨⟨s0, s1⟩, r0, r1⟩ := twoC hRU
   clear hXU hBU hU hG hRU hW3 hW e0 e1 hrun HX3 HB3
   go_wp2
   refine bodyPost_ret (by simp [results, Tryz.results46, go_sem, s0, s1, r0, r1]; try rfl) rfl ?_
   exact ⟨below_at (below_at HRE.out (Nat.le_refl _) 0 _) (Nat.le_refl _) 1 _, .inr ⟨HN.out, rfl⟩⟩
 ·have HF : Hid (findE t = none) := by show _ = _; unfold findE; rw [if_neg hk1]
  have hk2 : (t.kind == 1) = false := by simpa using hk1
  clear hlk hk1
  go_enter Tryz.func46, Tryz.ntmps46
  go_wp2
  refine bodyPost_ret (by simp [results, Tryz.results46, go_sem, u0, u1, v0, v1]; try rfl) rfl ?_
  exact ⟨below_at (below_at HB.out (Nat.le_refl _) 0 _) (Nat.le_refl _) 1 _, .inr ⟨HF.out, rfl⟩⟩
end Go.Proofs.YtmiidhgbdecdkaaGreat
namespace Go.Proofs.YtmiidhgbdecdkaaGreat
open Go.RowKit
set_option linter.unusedVariables false
set_option linter.unusedSimpArgs false
def isKeyed (t : Nd) : Bool := !(t.key.toList == (⟨#[]⟩ : ByteArray).toList)
set_option maxHeartbeats 1000000 in
theorem hasKey_any (t : Nd) (p : Option Addr) (n c : Nat) (w : World) :
  Calls Tryz.prog 115 #[.agg #[.int .i64 t.kind, .string t.name, .int .u32 t.num, .int .i64 t.int_, .string t.key, .slice p n c, .int .i64 t.at_]] w fun e w' => e = .returned (.bool (isKeyed t)) ∧ Below w.heap.size w w' := by
 have hb := bel_alloc w (.cells #[.int .i64 t.kind, .string t.name, .int .u32 t.num, .int .i64 t.int_, .string t.key, .slice p n c, .int .i64 t.at_] 29)
 have HB := hidM hb
 clear hb
 unfold isKeyed
 go_enter Tryz.func115, Tryz.ntmps115
 go_wp2
 refine bodyPost_ret (by simp [results, Tryz.results115, go_sem]; try rfl) rfl ?_
 exact ⟨by first | rfl | (simp; done), HB.out⟩
set_option maxRecDepth 100000 in
set_option maxHeartbeats 2000000 in
theorem idxNode_any (l : List Nd) (q : Option Addr) (c : Nat) (w : World) (hl : l.length ≤ 40000) (h : Kids w anyH (.slice q l.length c) l) :
  Calls Tryz.prog 135 #[.slice q l.length c, .func (.func 115) #[] #[]] w fun e w' => ∃ i : Int, e = .returned (.int .i64 i) ∧ (decide (i ≥ 0) = l.any isKeyed) ∧ Below w.heap.size w w' := by
 obtain ⟨n, hn⟩ : ∃ n, l.length = n := ⟨_, rfl⟩
 have HN : Hid (l.length = n) := hn
 have HK : Hid (Kids w anyH (.slice q l.length c) l) := h
 have HH : Hid (∀ (t : Nd) (p : Option Addr) (n c : Nat) (w : World), Calls Tryz.prog 115 #[.agg #[.int .i64 t.kind, .string t.name, .int .u32 t.num, .int .i64 t.int_, .string t.key, .slice p n c, .int .i64 t.at_]] w fun e w' => e = .returned (.bool (isKeyed t)) ∧ Below w.heap.size w w') := hasKey_any
 rw [hn] at hl ⊢
 clear hn h
 go_enter Tryz.func135, Tryz.ntmps135
 go_wp2
 go_loopw [8] (fun iv wr => Below w.heap.size w wr ∧ ∃ j : Nat, j ≤ n ∧ iv = .int .i64 j ∧ Hid ((l.take j).any isKeyed = false)) (fun iv _ => n - (intOf iv).toNat)
 case atStart => exact ⟨Below.refl _ _, 0, Nat.zero_le _, rfl, rfl⟩
 case round =>
  obtain ⟨hb, j, hj, rfl, HJ⟩ := hrel
  have HB : Hid (Below w.heap.size w wr) := hb
  by_cases hlt0 : j < n
  ·have hll : j < l.length := by rw [HN.out]; exact hlt0
   obtain ⟨b1, o1, q1, d1, rfl, ⟨x0, x1, x2, x3, x4, x5, x6⟩, kx⟩ := kid_at HK.out hb hll
   have HNX : Hid ((l.take (j + 1)).any isKeyed = isKeyed l[j]) := by show _ = _; rw [ntake_succ hll, List.any_append, HJ.out]; simp
   have HYS : Hid (isKeyed l[j] = true → l.any isKeyed = true) := fun h => List.any_eq_true.2 ⟨_, List.getElem_mem hll, h⟩
   obtain ⟨t, ht⟩ : ∃ t, l[j] = t := ⟨_, rfl⟩
   rw [ht] at x0 x1 x2 x3 x4 x5 x6 HNX HYS
   have i1 : (0 : Int) ≤ (j : Int) := by omega
   have i2 : (j : Int) < (n : Int) := by omega
   clear kx ht hb HK HJ
   cases hky : isKeyed t
   ·have HHT : Hid (∀ (p : Option Addr) (n c : Nat) (w : World), Calls Tryz.prog 115 #[.agg #[.int .i64 t.kind, .string t.name, .int .u32 t.num, .int .i64 t.int_, .string t.key, .slice p n c, .int .i64 t.at_]] w fun e w' => e = .returned (.bool false) ∧ Below w.heap.size w w') := fun p n c w => by rw [← hky]; exact HH.out t p n c w
    have HN2 : Hid ((l.take (j + 1)).any isKeyed = false) := HNX.out.trans hky
    clear HH HNX HYS hky
    go_wp2_with (go_at_call 115; (with_reducible refine (HHT.out _ _ _ _).mono ?_); rintro e w1 ⟨rfl, hb1⟩; have HB1 : Hid (Below w.heap.size w w1) := bel HB.out hb1; clear hb1)
    go_roundw
    case rel => exact ⟨HB1.out, j + 1, by omega, by go_num, HN2.out⟩
    case measure => simp [intOf]; omega
   ·have HHT : Hid (∀ (p : Option Addr) (n c : Nat) (w : World), Calls Tryz.prog 115 #[.agg #[.int .i64 t.kind, .string t.name, .int .u32 t.num, .int .i64 t.int_, .string t.key, .slice p n c, .int .i64 t.at_]] w fun e w' => e = .returned (.bool true) ∧ Below w.heap.size w w') := fun p n c w => by rw [← hky]; exact HH.out t p n c w
    have HF : Hid (l.any isKeyed = true) := HYS.out hky
    clear HH HNX HYS hky
    go_wp2_with (go_at_call 115; (with_reducible refine (HHT.out _ _ _ _).mono ?_); rintro e w1 ⟨rfl, hb1⟩; have HB1 : Hid (Below w.heap.size w w1) := bel HB.out hb1; clear hb1)
    refine bodyPost_ret (by simp [results, Tryz.results135, go_sem, *]; try rfl) rfl ?_
    exact ⟨j, rfl, by rw [HF.out]; simp, HB1.out⟩
  ·have : j = n := by omega
   subst this
   have i2 : ¬ ((j : Int) < (j : Int)) := by omega
   have HF : Hid (l.any isKeyed = false) := by
    have := HJ.out
    rw [List.take_of_length_le (by rw [HN.out]; exact Nat.le_refl _)] at this
    exact this
   clear HH HJ HK hb
   go_wp2
   refine bodyPost_ret (by simp [results, Tryz.results135, go_sem, *]; try rfl) rfl ?_
   exact ⟨-1, rfl, by rw [HF.out]; rfl, HB.out⟩
set_option maxHeartbeats 1000000 in
theorem hasKeys_any (l : List Nd) (q : Option Addr) (c : Nat) (w : World) (hl : l.length ≤ 40000) (h : Kids w anyH (.slice q l.length c) l) :
  Calls Tryz.prog 114 #[.slice q l.length c, .func (.func 115) #[] #[]] w fun e w' => e = .returned (.bool (l.any isKeyed)) ∧ Below w.heap.size w w' := by
 have HI : Hid (∀ x, Below w.heap.size w x → Calls Tryz.prog 135 #[.slice q l.length c, .func (.func 115) #[] #[]] x fun e w' => ∃ i : Int, e = .returned (.int .i64 i) ∧ (decide (i ≥ 0) = l.any isKeyed) ∧ Below x.heap.size x w') := fun x k => idxNode_any l q c x hl (h.below k)
 clear h
 go_enter Tryz.func114, Tryz.ntmps114
 go_wp2_with (go_at_call 135; (with_reducible refine (HI.out _ (Below.refl _ _)).mono ?_); rintro e w1 ⟨i, rfl, hi, hb1⟩; have HB1 := hidM hb1; have HD := hidM hi; clear hb1 hi)
 refine bodyPost_ret (by simp [results, Tryz.results114, go_sem]; try rfl) rfl ?_
 exact ⟨by rw [← HD.out], HB1.out⟩
end Go.Proofs.YtmiidhgbdecdkaaGreat
namespace Go.Proofs.YtmiidhgbdecdkaaGreat
open Go.RowKit
set_option linter.unusedVariables false
set_option linter.unusedSimpArgs false
theorem cellsG_at : ∀ (L : List (ByteArray × Nd)) (i k : Nat) (hi : i < L.length), k < 8 → (cellsG L)[i * 8 + k]? = (argCells L[i])[k]?
 | [], i, k, hi, hk => absurd hi (Nat.not_lt_zero _)
 | r :: R, 0, k, hi, hk => by
  have e : cellsG (r :: R) = argCells r ++ cellsG R := by simp [cellsG]
  rw [e, Nat.zero_mul, Nat.zero_add, List.getElem?_append_left (by simpa [argCells] using hk)]
  rfl
 | r :: R, i + 1, k, hi, hk => by
  have e : cellsG (r :: R) = argCells r ++ cellsG R := by simp [cellsG]
  rw [e, List.getElem?_append_right (by simp [argCells]; omega), show (i + 1) * 8 + k - (argCells r).length = i * 8 + k by simp [argCells]; omega]
  exact cellsG_at R i k (by simpa using hi) hk
theorem args_at {w : World} {q : Option Addr} {L : List (ByteArray × Nd)} (h : ArgsG w q L) {i : Nat} (hi : i < L.length) : ∃ g, q = some ⟨g, 0, none⟩ ∧ w.cell? ⟨g, i * 8, none⟩ = some (.string L[i].1) ∧ w.cell? ⟨g, i * 8 + 1, none⟩ = some (.int .i64 L[i].2.kind) ∧ w.cell? ⟨g, i * 8 + 2, none⟩ = some (.string L[i].2.name) ∧ w.cell? ⟨g, i * 8 + 3, none⟩ = some (.int .u32 L[i].2.num) ∧ w.cell? ⟨g, i * 8 + 4, none⟩ = some (.int .i64 L[i].2.int_) ∧ w.cell? ⟨g, i * 8 + 5, none⟩ = some (.string L[i].2.key) ∧ w.cell? ⟨g, i * 8 + 6, none⟩ = some (.slice none 0 0) ∧ w.cell? ⟨g, i * 8 + 7, none⟩ = some (.int .i64 L[i].2.at_) := by
 obtain ⟨g, h1, -, h2⟩ := h
 have key : ∀ k u, k < 8 → (argCells L[i])[k]? = some u → w.cell? ⟨g, i * 8 + k, none⟩ = some u := fun k u hk hu => h2 _ _ ((cellsG_at L i k hi hk).trans hu)
 exact ⟨g, h1, key 0 _ (by decide) rfl, key 1 _ (by decide) rfl, key 2 _ (by decide) rfl, key 3 _ (by decide) rfl, key 4 _ (by decide) rfl, key 5 _ (by decide) rfl, key 6 _ (by decide) rfl, key 7 _ (by decide) rfl⟩
set_option maxHeartbeats 1000000 in
theorem has1_any (x : ByteArray × Nd) (nm : ByteArray) (ad : Addr) (w : World) (h : w.cell? ad = some (.string nm)) :
  Calls Tryz.prog 134 #[.agg #[.string x.1, .int .i64 x.2.kind, .string x.2.name, .int .u32 x.2.num, .int .i64 x.2.int_, .string x.2.key, .slice none 0 0, .int .i64 x.2.at_], .pointer (some ad)] w fun e w' => e = .returned (.bool (sameB x.1 nm)) ∧ Below w.heap.size w w' := by
 have hb := bel_alloc w (.cells #[.string x.1, .int .i64 x.2.kind, .string x.2.name, .int .u32 x.2.num, .int .i64 x.2.int_, .string x.2.key, .slice none 0 0, .int .i64 x.2.at_] 117)
 have h1 := (hb.cell (mcell_lt h)).trans h
 have HB := hidM hb
 clear hb h
 unfold sameB
 go_enter Tryz.func134, Tryz.ntmps134
 go_wp2
 refine bodyPost_ret (by simp [results, Tryz.results134, go_sem]; try rfl) rfl ?_
 exact ⟨by first | rfl | (simp; done), HB.out⟩
set_option maxRecDepth 100000 in
set_option maxHeartbeats 2000000 in
theorem idxArg_any (L : List (ByteArray × Nd)) (nm : ByteArray) (ad : Addr) (q : Option Addr) (c : Nat) (w : World) (hl : L.length ≤ 40000) (h : ArgsG w q L) (had : w.cell? ad = some (.string nm)) :
  Calls Tryz.prog 142 #[.slice q L.length c, .func (.func 134) #[] #[.pointer (some ad)]] w fun e w' => ∃ i : Int, e = .returned (.int .i64 i) ∧ (decide (i ≥ 0) = L.any (fun x => sameB x.1 nm)) ∧ Below w.heap.size w w' := by
 obtain ⟨n, hn⟩ : ∃ n, L.length = n := ⟨_, rfl⟩
 have HN : Hid (L.length = n) := hn
 have HK : Hid (ArgsG w q L) := h
 have HH : Hid (∀ (x : ByteArray × Nd) (v : World), Below w.heap.size w v → Calls Tryz.prog 134 #[.agg #[.string x.1, .int .i64 x.2.kind, .string x.2.name, .int .u32 x.2.num, .int .i64 x.2.int_, .string x.2.key, .slice none 0 0, .int .i64 x.2.at_], .pointer (some ad)] v fun e w' => e = .returned (.bool (sameB x.1 nm)) ∧ Below v.heap.size v w') := fun x v k => has1_any x nm ad v ((k.cell (mcell_lt had)).trans had)
 rw [hn] at hl ⊢
 clear hn h had
 go_enter Tryz.func142, Tryz.ntmps142
 go_wp2
 go_loopw [8] (fun iv wr => Below w.heap.size w wr ∧ ∃ j : Nat, j ≤ n ∧ iv = .int .i64 j ∧ Hid ((L.take j).any (fun x => sameB x.1 nm) = false)) (fun iv _ => n - (intOf iv).toNat)
 case atStart => exact ⟨Below.refl _ _, 0, Nat.zero_le _, rfl, rfl⟩
 case round =>
  obtain ⟨hb, j, hj, rfl, HJ⟩ := hrel
  have HB : Hid (Below w.heap.size w wr) := hb
  by_cases hlt0 : j < n
  ·have hll : j < L.length := by rw [HN.out]; exact hlt0
   obtain ⟨g, rfl, x0, x1, x2, x3, x4, x5, x6, x7⟩ := args_at (HK.out.kp (Kp.of hb)) hll
   have HNX : Hid ((L.take (j + 1)).any (fun x => sameB x.1 nm) = sameB L[j].1 nm) := by
    show _ = _
    rw [List.take_succ_eq_append_getElem hll, List.any_append, HJ.out]
    simp
   have HYS : Hid (sameB L[j].1 nm = true → L.any (fun x => sameB x.1 nm) = true) := fun h => List.any_eq_true.2 ⟨_, List.getElem_mem hll, h⟩
   obtain ⟨t, ht⟩ : ∃ t, L[j] = t := ⟨_, rfl⟩
   rw [ht] at x0 x1 x2 x3 x4 x5 x7 HNX HYS
   have i1 : (0 : Int) ≤ (j : Int) := by omega
   have i2 : (j : Int) < (n : Int) := by omega
   clear ht hb HK HJ
   cases hky : sameB t.1 nm
   ·have HHT : Hid (∀ (v : World), Below w.heap.size w v → Calls Tryz.prog 134 #[.agg #[.string t.1, .int .i64 t.2.kind, .string t.2.name, .int .u32 t.2.num, .int .i64 t.2.int_, .string t.2.key, .slice none 0 0, .int .i64 t.2.at_], .pointer (some ad)] v fun e w' => e = .returned (.bool false) ∧ Below v.heap.size v w') := fun v k => by rw [← hky]; exact HH.out t v k
    have HN2 : Hid ((L.take (j + 1)).any (fun x => sameB x.1 nm) = false) := HNX.out.trans hky
    clear HH HNX HYS hky
    go_wp2_with (go_at_call 134; (with_reducible refine (HHT.out _ HB.out).mono ?_); rintro e w1 ⟨rfl, hb1⟩; have HB1 : Hid (Below w.heap.size w w1) := bel HB.out hb1; clear hb1)
    go_roundw
    case rel => exact ⟨HB1.out, j + 1, by omega, by go_num, HN2.out⟩
    case measure => simp [intOf]; omega
   ·have HHT : Hid (∀ (v : World), Below w.heap.size w v → Calls Tryz.prog 134 #[.agg #[.string t.1, .int .i64 t.2.kind, .string t.2.name, .int .u32 t.2.num, .int .i64 t.2.int_, .string t.2.key, .slice none 0 0, .int .i64 t.2.at_], .pointer (some ad)] v fun e w' => e = .returned (.bool true) ∧ Below v.heap.size v w') := fun v k => by rw [← hky]; exact HH.out t v k
    have HF : Hid (L.any (fun x => sameB x.1 nm) = true) := HYS.out hky
    clear HH HNX HYS hky
    go_wp2_with (go_at_call 134; (with_reducible refine (HHT.out _ HB.out).mono ?_); rintro e w1 ⟨rfl, hb1⟩; have HB1 : Hid (Below w.heap.size w w1) := bel HB.out hb1; clear hb1)
    refine bodyPost_ret (by simp [results, Tryz.results142, go_sem, *]; try rfl) rfl ?_
    exact ⟨j, rfl, by rw [HF.out]; simp, HB1.out⟩
  ·have : j = n := by omega
   subst this
   have i2 : ¬ ((j : Int) < (j : Int)) := by omega
   have HF : Hid (L.any (fun x => sameB x.1 nm) = false) := by
    have := HJ.out
    rw [List.take_of_length_le (by rw [HN.out]; exact Nat.le_refl _)] at this
    exact this
   clear HH HJ HK hb
   go_wp2
   refine bodyPost_ret (by simp [results, Tryz.results142, go_sem, *]; try rfl) rfl ?_
   exact ⟨-1, rfl, by rw [HF.out]; rfl, HB.out⟩
set_option maxHeartbeats 1000000 in
theorem hasArgs_any (L : List (ByteArray × Nd)) (nm : ByteArray) (ad : Addr) (q : Option Addr) (c : Nat) (w : World) (hl : L.length ≤ 40000) (h : ArgsG w q L) (had : w.cell? ad = some (.string nm)) :
  Calls Tryz.prog 133 #[.slice q L.length c, .func (.func 134) #[] #[.pointer (some ad)]] w fun e w' => e = .returned (.bool (L.any (fun x => sameB x.1 nm))) ∧ Below w.heap.size w w' := by
 have HI : Hid (∀ x, Below w.heap.size w x → Calls Tryz.prog 142 #[.slice q L.length c, .func (.func 134) #[] #[.pointer (some ad)]] x fun e w' => ∃ i : Int, e = .returned (.int .i64 i) ∧ (decide (i ≥ 0) = L.any (fun x => sameB x.1 nm)) ∧ Below x.heap.size x w') := fun x k => idxArg_any L nm ad q c x hl (h.kp (Kp.of k)) ((k.cell (mcell_lt had)).trans had)
 clear h had
 go_enter Tryz.func133, Tryz.ntmps133
 go_wp2_with (go_at_call 142; (with_reducible refine (HI.out _ (Below.refl _ _)).mono ?_); rintro e w1 ⟨i, rfl, hi, hb1⟩; have HB1 := hidM hb1; have HD := hidM hi; clear hb1 hi)
 refine bodyPost_ret (by simp [results, Tryz.results133, go_sem]; try rfl) rfl ?_
 exact ⟨by rw [← HD.out], HB1.out⟩
set_option maxHeartbeats 1000000 in
theorem rhas_any (L : List (ByteArray × Nd)) (nm : ByteArray) (q : Option Addr) (c : Nat) (f : Fn) (x1 x2 : Array Value) (w : World) (hl : L.length ≤ 40000) (h : ArgsG w q L) :
  Calls Tryz.prog 113 #[.agg #[.slice q L.length c, .func f x1 x2], .string nm] w fun e w' => e = .returned (.bool (L.any (fun x => sameB x.1 nm))) ∧ Below w.heap.size w w' := by
 have hb : Below w.heap.size w ((w.alloc (.cells #[.slice q L.length c, .func f x1 x2] 47)).alloc (.cells #[.string nm] 9)) := bel (bel_alloc _ _) (bel_alloc _ _)
 have had : ((w.alloc (.cells #[.slice q L.length c, .func f x1 x2] 47)).alloc (.cells #[.string nm] 9)).cell? ⟨w.heap.size + 1, 0, none⟩ = some (.string nm) := (at_cellA (two_heap w _ _) 0 rfl).1
 have HC : Hid (Calls Tryz.prog 133 #[.slice q L.length c, .func (.func 134) #[] #[.pointer (some ⟨w.heap.size + 1, 0, none⟩)]] ((w.alloc (.cells #[.slice q L.length c, .func f x1 x2] 47)).alloc (.cells #[.string nm] 9)) fun e w' => e = .returned (.bool (L.any (fun x => sameB x.1 nm))) ∧ Below w.heap.size w w') := (hasArgs_any L nm _ q c _ hl (h.kp (Kp.of hb)) had).mono fun e w' ⟨h1, h2⟩ => ⟨h1, bel hb h2⟩
 clear h had hb
 go_enter Tryz.func113, Tryz.ntmps113
 go_wp2_with (go_at_call 133; (with_reducible refine HC.out.mono ?_); rintro e w1 ⟨rfl, hb1⟩; have HB1 := hidM hb1; clear hb1)
 refine bodyPost_ret (by simp [results, Tryz.results113, go_sem]; try rfl) rfl ?_
 exact ⟨rfl, HB1.out⟩
end Go.Proofs.YtmiidhgbdecdkaaGreat
namespace Go.Proofs.YtmiidhgbdecdkaaGreat
open Go.RowKit
set_option linter.unusedVariables false
set_option linter.unusedSimpArgs false
def meantR (L : List (ByteArray × Nd)) (key : ByteArray) (ahead : List Nd) : ByteArray × Int :=
 if (key.toList == []) = false then (if L.any (fun x => sameB x.1 key) then (key, 0) else (⟨#[]⟩, 132))
 else if ahead.any isKeyed then (⟨#[]⟩, 132)
 else match L[ahead.length]? with | some x => (x.1, 0) | none => (⟨#[]⟩, 131)
set_option maxRecDepth 100000 in
set_option maxHeartbeats 2000000 in
theorem rmeant_any (L : List (ByteArray × Nd)) (key : ByteArray) (ahead : List Nd) (q qa : Option Addr) (c ca : Nat) (f : Fn) (x1 x2 : Array Value) (w : World) (hl : L.length ≤ 40000) (hla : ahead.length ≤ 40000) (h : ArgsG w q L) (ha : Kids w anyH (.slice qa ahead.length ca) ahead) :
  Calls Tryz.prog 86 #[.agg #[.slice q L.length c, .func f x1 x2], .string key, .slice qa ahead.length ca] w fun e w' => e = .returned (.tuple #[.string (meantR L key ahead).1, .int .i64 (meantR L key ahead).2]) ∧ Below w.heap.size w w' := by
 obtain ⟨M, hM⟩ : ∃ M, meantR L key ahead = M := ⟨_, rfl⟩
 rw [hM]
 unfold meantR at hM
 have hb := bel_alloc w (.cells #[.slice q L.length c, .func f x1 x2] 47)
 have hx := box_heapA w (.cells #[.slice q L.length c, .func f x1 x2] 47)
 obtain ⟨W, hW⟩ : ∃ W, w.alloc (.cells #[.slice q L.length c, .func f x1 x2] 47) = W := ⟨_, rfl⟩
 rw [hW] at hb hx
 have HB := hidM hb
 obtain ⟨⟨u0, u1⟩, -⟩ := twoC hx
 have HX := hidM hx
 have HA := hidM (h.kp (Kp.of hb))
 have HAH := hidM (ha.below hb)
 obtain ⟨n, hn⟩ : ∃ n, L.length = n := ⟨_, rfl⟩
 obtain ⟨m, hm⟩ : ∃ m, ahead.length = m := ⟨_, rfl⟩
 have HL := hidM hn
 have HMM := hidM hm
 have HHS : Hid (Calls Tryz.prog 113 #[.agg #[.slice q L.length c, .func f x1 x2], .string key] W fun e w' => e = .returned (.bool (L.any (fun x => sameB x.1 key))) ∧ Below W.heap.size W w') := rhas_any L key q c f x1 x2 W hl HA.out
 have HKS : Hid (Calls Tryz.prog 114 #[.slice qa ahead.length ca, .func (.func 115) #[] #[]] W fun e w' => e = .returned (.bool (ahead.any isKeyed)) ∧ Below W.heap.size W w') := hasKeys_any ahead qa ca W hla HAH.out
 rw [hn] at HHS u0 hW HX hl ⊢
 rw [hm] at HKS hla ⊢
 clear hb hx h ha
 cases hke : (key.toList == [])
 ·rw [if_pos hke] at hM
  cases hh : L.any (fun x => sameB x.1 key)
  ·rw [hh, if_neg (by decide)] at hM
   rw [hh] at HHS
   subst hM
   clear HKS hn hm hh HA HAH
   go_enter Tryz.func86, Tryz.ntmps86
   go_wp2_with (go_at_call 113; (with_reducible refine HHS.out.mono ?_); rintro e w1 ⟨rfl, hb1⟩; have HB1 := hidM (bel HB.out hb1); clear hb1)
   refine bodyPost_ret (by simp [results, Tryz.results86, go_sem]; try rfl) rfl ?_
   exact ⟨rfl, HB1.out⟩
  ·rw [hh, if_pos rfl] at hM
   rw [hh] at HHS
   subst hM
   clear HKS hn hm hh HA HAH
   go_enter Tryz.func86, Tryz.ntmps86
   go_wp2_with (go_at_call 113; (with_reducible refine HHS.out.mono ?_); rintro e w1 ⟨rfl, hb1⟩; have HB1 := hidM (bel HB.out hb1); clear hb1)
   refine bodyPost_ret (by simp [results, Tryz.results86, go_sem]; try rfl) rfl ?_
   exact ⟨rfl, HB1.out⟩
 ·rw [if_neg (by rw [hke]; decide)] at hM
  cases hh : ahead.any isKeyed
  ·rw [hh, if_neg (by decide)] at hM
   rw [hh] at HKS
   clear HHS hh
   by_cases hlen : m < n
   ·have hlt' : ahead.length < L.length := by omega
    rw [List.getElem?_eq_getElem hlt'] at hM
    obtain ⟨g, rfl, y0, -⟩ := args_at HA.out hlt'
    simp only at hM
    obtain ⟨Y, hY⟩ : ∃ Y, L[ahead.length].1 = Y := ⟨_, rfl⟩
    rw [hY] at y0 hM
    rw [hm] at y0
    have HY0 := hidM y0
    subst hM
    have i1 : ¬ ((m : Int) ≥ (n : Int)) := by omega
    have i2 : (m : Int) < (n : Int) := by omega
    have i3 : (0 : Int) ≤ (m : Int) := by omega
    clear hn hm HA HAH hlen hlt' hY y0
    go_enter Tryz.func86, Tryz.ntmps86
    go_wp2_with (go_at_call 114; (with_reducible refine HKS.out.mono ?_); rintro e w1 ⟨rfl, hb1⟩; have HB1 := hidM (bel HB.out hb1); have y1 := (hb1.cell (mcell_lt HY0.out)).trans HY0.out; obtain ⟨⟨s0, s1⟩, -⟩ := twoC ((hb1.block _ (hlt HX.out)).trans HX.out); clear hb1)
    refine bodyPost_ret (by simp [results, Tryz.results86, go_sem]; try rfl) rfl ?_
    exact ⟨rfl, HB1.out⟩
   ·rw [List.getElem?_eq_none (by omega)] at hM
    simp only at hM
    subst hM
    have i1 : (m : Int) ≥ (n : Int) := by omega
    clear hn hm HA HAH hlen
    go_enter Tryz.func86, Tryz.ntmps86
    go_wp2_with (go_at_call 114; (with_reducible refine HKS.out.mono ?_); rintro e w1 ⟨rfl, hb1⟩; have HB1 := hidM (bel HB.out hb1); obtain ⟨⟨s0, s1⟩, -⟩ := twoC ((hb1.block _ (hlt HX.out)).trans HX.out); clear hb1)
    refine bodyPost_ret (by simp [results, Tryz.results86, go_sem]; try rfl) rfl ?_
    exact ⟨rfl, HB1.out⟩
  ·rw [hh, if_pos rfl] at hM
   rw [hh] at HKS
   subst hM
   clear HHS hn hm hh HA HAH
   go_enter Tryz.func86, Tryz.ntmps86
   go_wp2_with (go_at_call 114; (with_reducible refine HKS.out.mono ?_); rintro e w1 ⟨rfl, hb1⟩; have HB1 := hidM (bel HB.out hb1); clear hb1)
   refine bodyPost_ret (by simp [results, Tryz.results86, go_sem]; try rfl) rfl ?_
   exact ⟨rfl, HB1.out⟩
end Go.Proofs.YtmiidhgbdecdkaaGreat
