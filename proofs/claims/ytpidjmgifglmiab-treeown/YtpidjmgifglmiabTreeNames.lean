import Derived.Test.YtpidjmgifglmiabTreeShelf
import Derived.Test.YtpidjmgifglmiabTreeCheck
import Derived.Deep.RegionLaw
import Derived.Deep.RegionWith
/- Package tree: Names. -/
namespace Go.Proofs.Ytpidjmgifglmiab
open Go.RowKit
set_option linter.unusedVariables false
set_option linter.unusedSimpArgs false

def strs (l : List ByteArray) : List Value := l.map Value.string
/-- A list of texts that the call owns. -/
def OwnS (w : World) (B : Nat) (v : Value) (l : List ByteArray) : Prop := w.ownsRow B 9 1 v l.length (strs l)
theorem OwnS.below {w w' : World} {B : Nat} {v : Value} {l : List ByteArray} (h : OwnS w B v l) (k : Below w.heap.size w w') : OwnS w' B v l := by
  refine World.ownsRow.kept h (row := none) ⟨k.os, k.tape, k.output, k.size, fun j hj _ => k.block j hj⟩ ?_
  cases v.ownBlock <;> simp
theorem ownS_nil (w : World) (B : Nat) : OwnS w B (.slice none 0 0) [] := World.ownsRow_nil w B _ 1
theorem info_string : (Try.prog.info? 9).map (fun i => (i.zero, i.size, i.bytes)) = some (some (.string ⟨#[]⟩), 1, 16) := by kernel_rfl

def gNames : List ByteArray → Nd → Int → Option Nd → Bool × List ByteArray := fun s t _ _ => (true, if t.kind == 1 then s ++ [t.name] else s)
def INames (C : Nat) (m : Nat) (s : List ByteArray) (w : World) : Prop := s.length + m ≤ 9000 ∧ ∃ v, w.heap[C]? = some (.cells #[v] 30) ∧ OwnS w (C + 1) v s ∧ (s = [] → v = .slice none 0 0)
theorem INames.below {C m : Nat} {s : List ByteArray} {w w' : World} (h : INames C m s w) (k : Below w.heap.size w w') : INames C m s w' := by
  obtain ⟨h1, v, h2, h3, h4⟩ := h
  exact ⟨h1, v, by rw [k.block C (hlt h2)]; exact h2, h3.below k, h4⟩

theorem names_own {w : World} {B : Nat} {v : Value} {s : List ByteArray} {nm : ByteArray} (h : w.ownsRow B 9 1 v (s.length + 1) (strs s ++ [.string nm])) : OwnS w B v (s ++ [nm]) := by
  unfold OwnS strs
  rw [List.length_append, List.map_append]
  exact h
/-- A row of texts is no place that was handed on. -/
theorem RT.grown {B : Nat} {w w' : World} {row : Option Nat} (hg : w.grownBy w' row) (hB : B ≤ w.heap.size) (hr : ∀ j, row = some j → B ≤ j) (hs : ∀ (j : Nat) (x y : Value), row = some j → w.heap[j]? ≠ some (.cells #[x, y] 47)) : RT B w w' := by
  refine ⟨fun _ => (Below.refl _ _).grown hg hB hr, hg.size, fun G x y hG => ?_⟩
  have hne : some G ≠ row := fun e => hs G x y e.symm hG
  rw [hg.block G (hlt hG) hne]
  exact hG
theorem OwnS.spot {w : World} {B : Nat} {v : Value} {l : List ByteArray} (h : OwnS w B v l) (j : Nat) (x y : Value) (e : v.ownBlock = some j) : w.heap[j]? ≠ some (.cells #[x, y] 47) := by
  rcases h.2 with ⟨hv, -⟩ | ⟨g, cap, cur, hv, -, hg, -⟩
  · subst hv; simp [Value.ownBlock] at e
  · subst hv
    simp [Value.ownBlock] at e
    subst e
    rw [hg]
    simp
theorem OwnS.set {w : World} {B : Nat} {v : Value} {l : List ByteArray} (h : OwnS w B v l) {C : Nat} (hC : C < B) (i : Nat) (x : Value) : OwnS (w.setCell ⟨C, i, none⟩ x) B v l := by
  refine ⟨h.1, ?_⟩
  rcases h.2 with hv | ⟨g, cap, cur, hv, hB, hg, hr⟩
  · exact .inl hv
  · exact .inr ⟨g, cap, cur, hv, hB, by rw [Below.heap_setCell _ _ _ _ (by show g ≠ C; omega)]; exact hg, hr⟩
/-- A call of a Go function by its contract, as one step of a region that draws. -/
theorem step_call {P : Program} {ops : Array Oper} {o : Oper} {a : Act} {w : World} {K : Act → World → Prop} {Q : Exit → Act → World → Prop} {E : Prop} (hg : o.guard = none)
    (f : FuncId) (args : Array Value) (hrun : (execOp a.eval o).run P w = .ok (.enter f args) w) (hc : Calls P f args w fun e w'' => ∃ v, e = .returned v ∧ K (a.put o.dst v) w'') :
    if Region.wanted o (yielded ops a.tmps) = true then Oper.wp P o a w K Q else E := by
  have hw : Region.wanted o (yielded ops a.tmps) = true := by simp [Region.wanted, hg]
  rw [if_pos hw]
  unfold Oper.wp
  rw [hrun, Oper.upon_enter]
  exact hc.mono fun e w'' ⟨v, he, h⟩ => by subst he; exact h

set_option maxRecDepth 100000 in
set_option maxHeartbeats 1000000 in
theorem names1_any (W : World) (C : Nat) (hC : W.heap.size ≤ C) (m : Nat) (s : List ByteArray) (w : World) (b o : Nat) (t : Nd) (d : Int) (av : Option Addr) (u : Option Nd) (hI : INames C (m + 1) s w) (hL : LT W w b o t) :
    Calls Try.prog 25 (#[.pointer (some ⟨b, o, none⟩), .agg #[.int .i64 d, .pointer av]] ++ #[.pointer (some ⟨C, 0, none⟩)]) w fun e w' => e = .returned (.bool (gNames s t d u).1) ∧ INames C m (gNames s t d u).2 w' ∧ RT W.heap.size w w' := by
  obtain ⟨h1, v, h2, h3, h4⟩ := hI
  have H4 : Hid (s = [] → v = .slice none 0 0) := h4
  clear h4
  have hb := bel_alloc w (.cells #[.int .i64 d, .pointer av] 47)
  have g1 := heap_old w (.cells #[.int .i64 d, .pointer av] 47) h2
  obtain ⟨c1, f1⟩ := one_cell g1
  obtain ⟨e0, e1, -, -, -, -, -⟩ := hL.node.below hb
  have s1 := hL.2.1.1.1.1
  have hbW : b < W.heap.size := mcell_lt (a := ⟨b, o, none⟩) hL.1.1
  show Calls Try.prog 25 #[.pointer (some ⟨b, o, none⟩), .agg #[.int .i64 d, .pointer av], .pointer (some ⟨C, 0, none⟩)] w _
  unfold gNames
  obtain ⟨k, nm, x, i, y, l, a⟩ := t
  simp only at *
  have G1 : Hid ((w.alloc (.cells #[.int .i64 d, .pointer av] 47)).heap[C]? = some (.cells #[v] 30)) := g1
  have H3 : Hid (OwnS (w.alloc (.cells #[.int .i64 d, .pointer av] 47)) (C + 1) v s) := h3.below hb
  have HR : Hid (RT W.heap.size w (w.alloc (.cells #[.int .i64 d, .pointer av] 47))) := RT.below hb
  clear g1 h2 h3 hL hb
  by_cases hk : k = 1
  · subst hk
    obtain ⟨i0, hi0, hz0, hz1, hz2⟩ := info_parts info_string
    go_enter Try.func25, Try.ntmps25
    go_wp2
    have hCb : ¬ (b = C) := by omega
    have KB : Hid (∀ v, Below (w.alloc (.cells #[.int .i64 d, .pointer av] 47)).heap.size (w.alloc (.cells #[.int .i64 d, .pointer av] 47)) v → v.cell? ⟨b, o + 1, none⟩ = some (.string nm)) := fun v hv => (hv.cell (mcell_lt e1)).trans e1
    have ab : v.ownBlock ≠ some b := fun e => by have := (H3.out.lt b e).1; omega
    have aC : v.ownBlock ≠ some C := fun e => by have := (H3.out.lt C e).1; omega
    have hCl := hlt G1.out
    have hent : ∀ (args : Array Value) (w : World), (callFunc 26 args).run Try.prog w = .ok (.enter 26 args) w := enters_of Try.func26 (by kernel_rfl) rfl
    go_region_law (first
      | (refine step_append_lies _ (by rfl) _ _ _ (by rfl) (C + 1) 9 i0 _ 1 16 Try.underlying30 hi0 hz0 hz1 hz2 rfl (by omega) v s.length (strs s) (by rfl) (World.ownsRow.alloc hown.out _)
            ⟨w2.heap.size, 0, none⟩ 1 1 [.string nm] (by rfl) (by rfl) (World.news_of_block (cs := #[.string nm]) (t := 9) (fr := (0, 0)) (box_heap w2 _)) (by simp [Value.oneCell'])
            (by omega) (by unfold maxLen; omega) (by omega) (by simp; omega) (w2.heap.size + 1) (by simp) ?_; intro gg cap w3 hown1 hgrow hat hlt1; have c3 : w3.cell? ⟨C, 0, none⟩ = some v := (hgrow.cell_far ⟨C, 0, none⟩ (by simp; omega) (Ne.symm aC)).trans (((bel_alloc w2 _).cell (p := ⟨C, 0, none⟩) (by show C < w2.heap.size; omega)).trans c2); have f3 : w3.frozen? ⟨C, 0, none⟩ = false := (hgrow.frozen_far ⟨C, 0, none⟩ (by simp; omega) (Ne.symm aC)).trans (((bel_alloc w2 _).frozen (p := ⟨C, 0, none⟩) (by show C < w2.heap.size; omega)).trans f2))
      | (refine step_call rfl 26 #[.string nm] (by simp [execOp, resolve, invoke, Act.eval, Act.put, go_sem, hent]) ((clone_any nm s1 _).mono ?_); rintro e w2 ⟨rfl, hb2'⟩; refine ⟨_, rfl, ?_⟩; have hb2 := bel (bel_d _) hb2'; have HB2 : Hid (Below (w.alloc (.cells #[.int .i64 d, .pointer av] 47)).heap.size (w.alloc (.cells #[.int .i64 d, .pointer av] 47)) w2) := hb2; have m1 := KB.out w2 hb2; have mC : w2.heap[C]? = some (.cells #[v] 30) := (hb2.block C (hlt G1.out)).trans G1.out; obtain ⟨c2, f2⟩ := one_cell mC; have HMC : Hid (w2.heap[C]? = some (.cells #[v] 30)) := mC; have hown : Hid (OwnS w2 (C + 1) v s) := H3.out.below hb2; have hCs : C + 1 ≤ w2.heap.size := hlt mC; have hCl2 : C < w2.heap.size := hlt mC; clear hb2 hb2' mC))
    all_goals (
      have HO3 : Hid (OwnS w3 (C + 1) (.slice (some ⟨gg, 0, none⟩) (s.length + 1) cap) (s ++ [nm])) := names_own hown1
      have HX3 : Hid (w3.heap[C]? = some (.cells #[v] 30)) := by
        have := hgrow.block C (by simp; omega) (Ne.symm aC)
        rw [Below.heap_alloc _ _ _ hCl2] at this
        exact this.trans HMC.out
      have HG3 : Hid (RT W.heap.size w w3) := HR.out.trans ((RT.below HB2.out).trans ((RT.below (bel_alloc w2 _)).trans (RT.grown hgrow (by simp; omega) (fun j e => by have := (hown.out.lt j e).1; omega) (fun j x y e => (OwnS.spot (World.ownsRow.alloc hown.out _) j x y e)))))
      clear hown1 hgrow hat
      go_wp2
      go_ret
      exact ⟨rfl, ⟨by show (s ++ [nm]).length + m ≤ 9000; rw [List.length_append]; simp; omega, _, heap_set HX3.out _, HO3.out.set (Nat.lt_succ_self C) 0 _, fun e => by simp at e⟩, HG3.out.trans (RT.set HX3.out hC _)⟩)
  · have z : (k == 1) = false := by simpa using hk
    rw [z]
    go_enter Try.func25, Try.ntmps25
    go_wp2
    go_ret
    exact ⟨rfl, ⟨by show s.length + m ≤ 9000; omega, v, G1.out, H3.out, H4.out⟩, HR.out⟩

theorem wkL_names (l : List Nd) : ∀ (d : Int) (u : Option Nd) (s : List ByteArray), wkL gNames l d u s = (true, s ++ namesL l) := by
  apply forest (P := fun l => ∀ (d : Int) (u : Option Nd) (s : List ByteArray), wkL gNames l d u s = (true, s ++ namesL l))
  · intro d u s; rw [wkL_nil, namesL_nil]; simp
  · intro t r h1 h2 d u s
    rw [wkL_cons, namesL_cons]
    have e : wk gNames t d u s = (true, s ++ names t) := by
      unfold wk names
      rw [show gNames s t d u = (true, if t.kind == 1 then s ++ [t.name] else s) from rfl]
      rw [if_pos rfl, h1]
      congr 1
      split <;> simp
    rw [e, if_pos rfl, h2]
    simp
theorem wk_names (t : Nd) (d : Int) (u : Option Nd) : wk gNames t d u [] = (true, names t) := by
  rw [← wkL_one, wkL_names, namesL_one]
  simp

theorem OwnS.mono {w : World} {B D : Nat} {v : Value} {l : List ByteArray} (h : OwnS w B v l) (hD : D ≤ B) : OwnS w D v l := by
  refine ⟨h.1, ?_⟩
  rcases h.2 with hv | ⟨g, cap, cur, hv, hB, hr⟩
  · exact .inl hv
  · exact .inr ⟨g, cap, cur, hv, by omega, hr⟩

set_option maxHeartbeats 1000000 in
theorem names_any (t : Nd) (sv : Value) (w : World) (hc : cnt t ≤ 9000) (hok : ok1 t) (hk : Kids w anyH sv t.args) :
    Calls Try.prog 8 #[nv t sv] w fun e w' => ∃ v, e = .returned v ∧ OwnS w' w.heap.size v (names t) ∧ (names t = [] → v = .slice none 0 0) ∧ Below w.heap.size w w' := by
  have hn := box_node w t sv hk
  have HC : Hid (∀ v : World, INames (w.heap.size + 1) (cnt t) [] v → Below (w.heap.size + 1) (w.alloc (.cells #[.int .i64 t.kind, .string t.name, .int .u32 t.num, .int .i64 t.int_, .string t.key, sv, .int .i64 t.at_] 26)) v → Calls Try.prog 22 #[.pointer (some ⟨w.heap.size, 0, none⟩), .agg #[.int .i64 1, .pointer none], .func (.func 25) #[] #[.pointer (some ⟨w.heap.size + 1, 0, none⟩)]] v fun e v' => e = .returned (.bool true) ∧ ∃ x, v'.cell? ⟨w.heap.size + 1, 0, none⟩ = some x ∧ OwnS v' w.heap.size x (names t) ∧ (names t = [] → x = .slice none 0 0) ∧ Below w.heap.size w v') := fun v hI hv => by
    have hbW := bel_alloc w (.cells #[.int .i64 t.kind, .string t.name, .int .u32 t.num, .int .i64 t.int_, .string t.key, sv, .int .i64 t.at_] 26)
    obtain ⟨W, hW⟩ : ∃ W, w.alloc (.cells #[.int .i64 t.kind, .string t.name, .int .u32 t.num, .int .i64 t.int_, .string t.key, sv, .int .i64 t.at_] 26) = W := ⟨_, rfl⟩
    have hs : W.heap.size = w.heap.size + 1 := by rw [← hW]; simp
    rw [hW] at hn hbW hv
    rw [← hs] at hI hv ⊢
    have := walk_top W t w.heap.size 0 hc hok hn [] (looks_of W (enters_of Try.func25 (by kernel_rfl) rfl) (fun m s w w' h k => h.below k) (fun m m' s w hm h => ⟨by have := h.1; omega, h.2⟩) (fun m s w b o t d av u hI hL _ => names1_any W W.heap.size (Nat.le_refl _) m s w b o t d av u hI hL)) v hI hv
    rw [wk_names] at this
    refine this.mono fun e v' ⟨he, ⟨_, x, hx, ho, hz⟩, hr⟩ => ⟨he, x, (one_cell hx).1, ho.mono (by omega), hz, hbW.trans (hr.mono (by omega))⟩
  clear hn hok hk
  unfold nv
  go_enter Try.func8, Try.ntmps8
  go_wp2_with (first
    | (go_at_call 23; refine (top_any _).mono ?_; rintro e w2 ⟨rfl, hb2⟩; have hI2 : INames (w.heap.size + 1) (cnt t) [] w2 := INames.below ⟨by simp; omega, _, two_heap _ _ _, ownS_nil _ _, fun _ => rfl⟩ hb2; have hB2 := two_below hb2)
    | (go_at_call 22; (with_reducible refine (HC.out _ hI2 hB2).mono ?_); rintro e w3 ⟨rfl, x, hc3, ho3, hz3, hb3⟩; have HO3 : Hid (OwnS w3 w.heap.size x (names t) ∧ (names t = [] → x = .slice none 0 0)) := ⟨ho3, hz3⟩; clear ho3 hz3))
  go_ret
  exact ⟨_, rfl, HO3.out.1, HO3.out.2, hb3⟩

end Go.Proofs.Ytpidjmgifglmiab
