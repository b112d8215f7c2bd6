import Derived.Test.YtbmkddmmclndcaaPart1
import Ieee.Arith
import Derived.Laws.FloatBits
import Derived.Laws.FloatArith
import Derived.Orders
import Derived.OrdersHeld
import Derived.Below
import Derived.KernelRfl
import Derived.Laws.AppendOwnNone
import Derived.MapKept
import Derived.Deep.QuietTactic
import Derived.BigQuiet
import Derived.LoopN
import Derived.Maps.AppendAt
import Derived.Deep.OwnRows
import Derived.Deep.DeepCutAuto
import Derived.OwnWalk
/- The reference's Count, Depth, Equal; room, big, same. -/
namespace Go.Proofs.Ytbmkddmmclndcaa
open Go.RowKit
set_option linter.unusedVariables false
set_option linter.unusedSimpArgs false

theorem cell5 {w : World} {G : Nat} {a0 a1 a2 a3 a4 a5 a6 : Value} {t : TypeId} (h : w.heap[G]? = some (.cells #[a0, a1, a2, a3, a4, a5, a6] t)) : w.cell? ⟨G, 5, none⟩ = some a5 := cell_heap h 5
/-- The node at a place of a slice. -/
theorem kid_at {w : World} {p : Option Addr} {c : Nat} {l : List Nd} (h : Kids w anyH (.slice p l.length c) l) {v : World} (hb : Below w.heap.size w v) {j : Nat} (hj : j < l.length) : ∃ b o q d, p = some ⟨b, o, none⟩ ∧
    (v.cell? ⟨b, o + j * 7, none⟩ = some (.int .i64 l[j].kind) ∧ v.cell? ⟨b, o + j * 7 + 1, none⟩ = some (.string l[j].name) ∧ v.cell? ⟨b, o + j * 7 + 2, none⟩ = some (.int .u32 l[j].num) ∧ v.cell? ⟨b, o + j * 7 + 3, none⟩ = some (.int .i64 l[j].int_) ∧ v.cell? ⟨b, o + j * 7 + 4, none⟩ = some (.string l[j].key) ∧ v.cell? ⟨b, o + j * 7 + 5, none⟩ = some (.slice q l[j].args.length d) ∧ v.cell? ⟨b, o + j * 7 + 6, none⟩ = some (.int .i64 l[j].at_))
    ∧ Kids v anyH (.slice q l[j].args.length d) l[j].args := by
  obtain ⟨p', c', hv, -, hk⟩ := h
  simp only [Value.slice.injEq] at hv
  obtain ⟨rfl, -, -⟩ := hv
  rcases hk with hk | ⟨b, o, hp, hk⟩
  · rw [hk] at hj; exact absurd hj (Nat.not_lt_zero _)
  · obtain ⟨q, d, h1, h2⟩ := KA_seven (hk.below hb) hj
    exact ⟨b, o, q, d, hp, h1, h2⟩

def CntTo (N : Nat) : Prop := ∀ (t : Nd) (p : Option Addr) (c : Nat) (w : World), dep t ≤ N → cnt t ≤ 9000 → Kids w anyH (.slice p t.args.length c) t.args →
  Calls Try.prog 25 #[nv t (.slice p t.args.length c)] w fun e w' => e = .returned (.int .i64 (cnt t)) ∧ Below w.heap.size w w'
set_option maxRecDepth 100000 in
set_option maxHeartbeats 2000000 in
theorem rcount_to : ∀ N, CntTo N := by
  intro N
  induction N with
  | zero => intro t p c w hd; unfold dep at hd; omega
  | succ N ih =>
    intro t p c w hd hc hk
    have hlen : t.args.length ≤ 9000 := by have := cntL_len t.args; unfold cnt at hc; omega
    obtain ⟨n, hn⟩ : ∃ n, t.args.length = n := ⟨_, rfl⟩
    have HN : Hid (t.args.length = n) := hn
    have hbx := box_heap w (.cells #[.int .i64 t.kind, .string t.name, .int .u32 t.num, .int .i64 t.int_, .string t.key, .slice p t.args.length c, .int .i64 t.at_] 26)
    have hb0 := bel_alloc w (.cells #[.int .i64 t.kind, .string t.name, .int .u32 t.num, .int .i64 t.int_, .string t.key, .slice p t.args.length c, .int .i64 t.at_] 26)
    have HK : Hid (Kids w anyH (.slice p t.args.length c) t.args) := hk
    have HIH : Hid (CntTo N) := ih
    unfold nv
    rw [hn] at hlen hbx ⊢
    have HBX : Hid ((w.alloc (.cells #[.int .i64 t.kind, .string t.name, .int .u32 t.num, .int .i64 t.int_, .string t.key, .slice p n c, .int .i64 t.at_] 26)).heap[w.heap.size]? = some (.cells #[.int .i64 t.kind, .string t.name, .int .u32 t.num, .int .i64 t.int_, .string t.key, .slice p n c, .int .i64 t.at_] 26)) := hbx
    rw [hn] at hb0
    clear hn hk ih hbx
    go_enter Try.func25, Try.ntmps25
    go_wp2
    go_loopw [3, 4] (fun kv iv wr => Below w.heap.size w wr ∧ ∃ j : Nat, j ≤ n ∧ iv = .int .i64 j ∧ kv = .int .i64 (1 + (cntL (t.args.take j) : Int)) ∧ wr.heap[w.heap.size]? = some (.cells #[.int .i64 t.kind, .string t.name, .int .u32 t.num, .int .i64 t.int_, .string t.key, .slice p n c, .int .i64 t.at_] 26)) (fun _ iv _ => n - (intOf iv).toNat)
    case atStart => exact ⟨hb0, 0, Nat.zero_le _, rfl, by rw [List.take_zero, cntL_nil]; rfl, HBX.out⟩
    case round =>
      obtain ⟨hb, j, hj, rfl, rfl, hx⟩ := hrel
      have h5 := cell5 hx
      have HX : Hid (wr.heap[w.heap.size]? = some (.cells #[.int .i64 t.kind, .string t.name, .int .u32 t.num, .int .i64 t.int_, .string t.key, .slice p n c, .int .i64 t.at_] 26)) := hx
      clear hx HBX hb0
      by_cases hlt0 : j < n
      · have hll : j < t.args.length := by rw [HN.out]; exact hlt0
        obtain ⟨b1, o1, q1, d1, rfl, ⟨x0, x1, x2, x3, x4, x5, x6⟩, kx⟩ := kid_at HK.out hb hll
        have ht := cntL_take hll
        have hle := cntL_take_le t.args (j + 1)
        have hce : cnt t = 1 + cntL t.args := rfl
        obtain ⟨s, hs⟩ : ∃ s, cntL (t.args.take j) = s := ⟨_, rfl⟩
        obtain ⟨m, hm⟩ : ∃ m, cnt t.args[j] = m := ⟨_, rfl⟩
        rw [hs] at ht ⊢
        have HW : Hid (Calls Try.prog 25 #[.agg #[.int .i64 t.args[j].kind, .string t.args[j].name, .int .u32 t.args[j].num, .int .i64 t.args[j].int_, .string t.args[j].key, .slice q1 t.args[j].args.length d1, .int .i64 t.args[j].at_]] wr fun e v' => e = .returned (.int .i64 (m : Int)) ∧ Below wr.heap.size wr v') :=
          (HIH.out t.args[j] q1 d1 wr (by have := dep_get hll; unfold dep at hd ⊢; unfold dep at this; omega) (by have := cnt_get hll; omega) kx).mono fun e v' ⟨he, hb'⟩ => ⟨by rw [he, hm], hb'⟩
        rw [hm] at ht
        have HT : Hid (cntL (t.args.take (j + 1)) = s + m) := ht
        have sm : s + m ≤ 9000 := by omega
        have i1 : (0 : Int) ≤ (j : Int) := by omega
        have i2 : (j : Int) < (n : Int) := by omega
        clear kx ht hs hm HIH hle hce
        go_wp2_with (go_at_call 25; (with_reducible refine HW.out.mono ?_); rintro e w3 ⟨rfl, hb3⟩)
        go_roundw
        case rel => exact ⟨bel hb hb3, j + 1, by omega, by go_num, by rw [HT.out]; congr 1; push_cast; omega, by rw [hb3.block _ (hlt HX.out)]; exact HX.out⟩
        case measure => simp [intOf]; omega
      · have : j = n := by omega
        subst this
        go_wp2
        go_ret
        refine ⟨ret_int ?_, hb⟩
        rw [List.take_of_length_le (by rw [HN.out]; exact Nat.le_refl _)]
        unfold cnt
        push_cast
        rfl

def DepTo (N : Nat) : Prop := ∀ (t : Nd) (p : Option Addr) (c : Nat) (w : World), dep t ≤ N → cnt t ≤ 9000 → Kids w anyH (.slice p t.args.length c) t.args →
  Calls Try.prog 24 #[nv t (.slice p t.args.length c)] w fun e w' => e = .returned (.int .i64 (dep t)) ∧ Below w.heap.size w w'
set_option maxRecDepth 100000 in
set_option maxHeartbeats 2000000 in
theorem rdepth_to : ∀ N, DepTo N := by
  intro N
  induction N with
  | zero => intro t p c w hd; unfold dep at hd; omega
  | succ N ih =>
    intro t p c w hd hc hk
    have hlen : t.args.length ≤ 9000 := by have := cntL_len t.args; unfold cnt at hc; omega
    have hdl : depL t.args ≤ 9000 := by have := depL_cnt t.args; unfold cnt at hc; omega
    obtain ⟨n, hn⟩ : ∃ n, t.args.length = n := ⟨_, rfl⟩
    have HN : Hid (t.args.length = n) := hn
    have hbx := box_heap w (.cells #[.int .i64 t.kind, .string t.name, .int .u32 t.num, .int .i64 t.int_, .string t.key, .slice p t.args.length c, .int .i64 t.at_] 26)
    have hb0 := bel_alloc w (.cells #[.int .i64 t.kind, .string t.name, .int .u32 t.num, .int .i64 t.int_, .string t.key, .slice p t.args.length c, .int .i64 t.at_] 26)
    have HK : Hid (Kids w anyH (.slice p t.args.length c) t.args) := hk
    have HIH : Hid (DepTo N) := ih
    unfold nv
    rw [hn] at hlen hbx ⊢
    have HBX : Hid ((w.alloc (.cells #[.int .i64 t.kind, .string t.name, .int .u32 t.num, .int .i64 t.int_, .string t.key, .slice p n c, .int .i64 t.at_] 26)).heap[w.heap.size]? = some (.cells #[.int .i64 t.kind, .string t.name, .int .u32 t.num, .int .i64 t.int_, .string t.key, .slice p n c, .int .i64 t.at_] 26)) := hbx
    rw [hn] at hb0
    clear hn hk ih hbx
    go_enter Try.func24, Try.ntmps24
    go_wp2
    go_loopw [3, 4] (fun kv iv wr => Below w.heap.size w wr ∧ ∃ j : Nat, j ≤ n ∧ iv = .int .i64 j ∧ kv = .int .i64 (depL (t.args.take j) : Int) ∧ wr.heap[w.heap.size]? = some (.cells #[.int .i64 t.kind, .string t.name, .int .u32 t.num, .int .i64 t.int_, .string t.key, .slice p n c, .int .i64 t.at_] 26)) (fun _ iv _ => n - (intOf iv).toNat)
    case atStart => exact ⟨hb0, 0, Nat.zero_le _, rfl, by rw [List.take_zero, depL_nil]; rfl, HBX.out⟩
    case round =>
      obtain ⟨hb, j, hj, rfl, rfl, hx⟩ := hrel
      have h5 := cell5 hx
      have HX : Hid (wr.heap[w.heap.size]? = some (.cells #[.int .i64 t.kind, .string t.name, .int .u32 t.num, .int .i64 t.int_, .string t.key, .slice p n c, .int .i64 t.at_] 26)) := hx
      clear hx HBX hb0
      by_cases hlt0 : j < n
      · have hll : j < t.args.length := by rw [HN.out]; exact hlt0
        obtain ⟨b1, o1, q1, d1, rfl, ⟨x0, x1, x2, x3, x4, x5, x6⟩, kx⟩ := kid_at HK.out hb hll
        have ht := depL_take hll
        obtain ⟨s, hs⟩ : ∃ s, depL (t.args.take j) = s := ⟨_, rfl⟩
        obtain ⟨m, hm⟩ : ∃ m, dep t.args[j] = m := ⟨_, rfl⟩
        rw [hs] at ht ⊢
        have HW : Hid (Calls Try.prog 24 #[.agg #[.int .i64 t.args[j].kind, .string t.args[j].name, .int .u32 t.args[j].num, .int .i64 t.args[j].int_, .string t.args[j].key, .slice q1 t.args[j].args.length d1, .int .i64 t.args[j].at_]] wr fun e v' => e = .returned (.int .i64 (m : Int)) ∧ Below wr.heap.size wr v') :=
          (HIH.out t.args[j] q1 d1 wr (by have := dep_get hll; unfold dep at hd ⊢; unfold dep at this; omega) (by have := cnt_get hll; unfold cnt at hc; omega) kx).mono fun e v' ⟨he, hb'⟩ => ⟨by rw [he, hm], hb'⟩
        rw [hm] at ht
        have HT : Hid (depL (t.args.take (j + 1)) = max s m) := ht
        have i1 : (0 : Int) ≤ (j : Int) := by omega
        have i2 : (j : Int) < (n : Int) := by omega
        clear kx ht hs hm HIH
        by_cases hsm : s < m
        · have z1 : (s : Int) < (m : Int) := by omega
          have z2 : ¬ ((m : Int) < (s : Int)) := by omega
          have z3 : ¬ ((m : Int) ≤ (s : Int)) := by omega
          go_wp2_with (go_at_call 24; (with_reducible refine HW.out.mono ?_); rintro e w3 ⟨rfl, hb3⟩)
          go_roundw
          case rel => exact ⟨bel hb hb3, j + 1, by omega, by go_num, by rw [HT.out]; congr 1; omega, by rw [hb3.block _ (hlt HX.out)]; exact HX.out⟩
          case measure => simp [intOf]; omega
        · have z1 : ¬ ((s : Int) < (m : Int)) := by omega
          have z3 : (m : Int) ≤ (s : Int) := by omega
          go_wp2_with (go_at_call 24; (with_reducible refine HW.out.mono ?_); rintro e w3 ⟨rfl, hb3⟩)
          go_roundw
          case rel => exact ⟨bel hb hb3, j + 1, by omega, by go_num, by rw [HT.out]; congr 1; omega, by rw [hb3.block _ (hlt HX.out)]; exact HX.out⟩
          case measure => simp [intOf]; omega
      · have : j = n := by omega
        subst this
        have e : depL (t.args.take j) = depL t.args := by rw [List.take_of_length_le (by rw [HN.out]; exact Nat.le_refl _)]
        rw [e]
        clear e
        go_wp2
        go_ret
        refine ⟨ret_int ?_, hb⟩
        unfold dep
        push_cast
        rfl

end Go.Proofs.Ytbmkddmmclndcaa
/- Rows of nodes that grow by append. -/
namespace Go.Proofs.Ytbmkddmmclndcaa
open Go.RowKit
set_option linter.unusedVariables false
set_option linter.unusedSimpArgs false

/-- Rows that lie from C on, below S, and not in one block. -/
def kidH (C S : Nat) (g : Option Nat) : Heads := fun p n c => ∀ b o, p = some ⟨b, o, none⟩ → C ≤ b ∧ b < S ∧ some b ≠ g
def nodeCells (t : Nd) (s : Value) : List Value := [.int .i64 t.kind, .string t.name, .int .u32 t.num, .int .i64 t.int_, .string t.key, s, .int .i64 t.at_]
def cellsN (R : List (Nd × Value)) : List Value := R.flatMap fun r => nodeCells r.1 r.2
theorem cellsN_snoc (R : List (Nd × Value)) (t : Nd) (s : Value) : cellsN (R ++ [(t, s)]) = cellsN R ++ nodeCells t s := by simp [cellsN]
theorem cellsN_at : ∀ (R : List (Nd × Value)) (i k : Nat) (hi : i < R.length), k < 7 → (cellsN R)[i * 7 + k]? = (nodeCells R[i].1 R[i].2)[k]?
  | [], i, k, hi, hk => absurd hi (Nat.not_lt_zero _)
  | r :: R, 0, k, hi, hk => by
    have e : cellsN (r :: R) = nodeCells r.1 r.2 ++ cellsN R := by simp [cellsN]
    rw [e, Nat.zero_mul, Nat.zero_add, List.getElem?_append_left (by simp [nodeCells]; exact hk)]
    rfl
  | r :: R, i + 1, k, hi, hk => by
    have e : cellsN (r :: R) = nodeCells r.1 r.2 ++ cellsN R := by simp [cellsN]
    rw [e, List.getElem?_append_right (by simp [nodeCells]; omega), show (i + 1) * 7 + k - (nodeCells r.1 r.2).length = i * 7 + k by simp [nodeCells]; omega]
    exact cellsN_at R i k (by simpa using hi) hk

theorem kidH.mono {C S S' : Nat} {g : Option Nat} (h : S ≤ S') (p : Option Addr) (n c : Nat) : kidH C S g p n c → kidH C S' g p n c := fun k b o e => ⟨(k b o e).1, by have := (k b o e).2.1; omega, (k b o e).2.2⟩
/-- Nodes in a row of one's own. -/
def RowN (w : World) (C : Nat) (v : Value) (l : List Nd) (R : List (Nd × Value)) : Prop :=
  R.map (fun r => r.1) = l ∧ w.ownsRow C 26 7 v l.length (cellsN R) ∧ ∀ r ∈ R, Kids w (kidH C w.heap.size v.ownBlock) r.2 r.1.args
theorem RowN.nil (w : World) (C : Nat) : RowN w C (.slice none 0 0) [] [] := ⟨rfl, World.ownsRow_nil w C _ 7, fun r h => by cases h⟩
theorem RowN.below {w w' : World} {C : Nat} {v : Value} {l : List Nd} {R : List (Nd × Value)} (h : RowN w C v l R) (k : Below w.heap.size w w') : RowN w' C v l R := by
  refine ⟨h.1, World.ownsRow.kept h.2.1 (row := none) ⟨k.os, k.tape, k.output, k.size, fun j hj _ => k.block j hj⟩ ?_, fun r hr => ((h.2.2 r hr).below k).weak (kidH.mono k.size)⟩
  cases v.ownBlock <;> simp
theorem RowN.push {w w1 w2 : World} {C : Nat} {v : Value} {l : List Nd} {R : List (Nd × Value)} {t : Nd} {s : Value} {g cap : Nat} (h : RowN w C v l R) (hb : Below w.heap.size w w1) (hs : Kids w (kidH C w.heap.size v.ownBlock) s t.args)
    (hg : w1.grownBy w2 v.ownBlock) (hat : v.ownBlock = some g ∨ g = w1.heap.size) (hown : w2.ownsRow C 26 7 (.slice (some ⟨g, 0, none⟩) (l.length + 1) cap) (l.length + 1) (cellsN R ++ nodeCells t s)) :
    RowN w2 C (.slice (some ⟨g, 0, none⟩) (l.length + 1) cap) (l ++ [t]) (R ++ [(t, s)]) := by
  have key : ∀ (x : Value) (m : List Nd), Kids w (kidH C w.heap.size v.ownBlock) x m → Kids w2 (kidH C w2.heap.size (some g)) x m := fun x m hx => by
    have h1 := hx.below hb
    have h2 : Kids w2 (kidH C w.heap.size v.ownBlock) x m := h1.keep fun p n c b o j u hq hp hj => by
      have hq' := hq b o hp
      rw [World.cell?_of_block (w := w1) (hg.block b (by have := hb.size; omega) hq'.2.2)]
      exact hj
    refine h2.weak fun p n c hq b o hp => ?_
    have hq' := hq b o hp
    refine ⟨hq'.1, by have := hb.size; have := hg.size; omega, fun e => ?_⟩
    rcases hat with hat | hat
    · exact hq'.2.2 (by rw [hat]; exact e)
    · have : b = g := Option.some.inj e
      have := hb.size
      omega
  refine ⟨by rw [List.map_append, h.1]; rfl, by rw [List.length_append, cellsN_snoc]; exact hown, fun r hr => ?_⟩
  rcases List.mem_append.1 hr with hr | hr
  · exact key _ _ (h.2.2 r hr)
  · simp at hr
    subst hr
    exact key _ _ hs
theorem RowN.kids {w : World} {C : Nat} {v : Value} {l : List Nd} {R : List (Nd × Value)} (h : RowN w C v l R) : Kids w (kidH C w.heap.size none) v l := by
  obtain ⟨hR, ⟨hl, ho⟩, hk⟩ := h
  rcases ho with ⟨hv, hn⟩ | ⟨g, cap, cur, hv, hB, hg, hc1, hc2, hsz, htk⟩
  · have : l = [] := List.eq_nil_of_length_eq_zero hn
    subst this
    exact ⟨none, 0, hv, (fun b o e => by cases e), .inl rfl⟩
  · have hRl : R.length = l.length := by rw [← hR]; simp
    refine ⟨some ⟨g, 0, none⟩, cap, hv, fun b o e => ?_, .inr ⟨g, 0, rfl, KA_of fun i hi => ?_⟩⟩
    · cases e
      exact ⟨hB, hlt hg, by simp⟩
    · have hi' : i < R.length := by omega
      have he : l[i] = R[i].1 := by
        have := List.getElem_map (fun r : Nd × Value => r.1) (l := R) (i := i) (h := by simpa using hi')
        rw [← this]
        simp [hR]
      have key : ∀ k, k < 7 → w.cell? ⟨g, 0 + i * 7 + k, none⟩ = (nodeCells R[i].1 R[i].2)[k]? := fun k hk => by
        rw [← cellsN_at R i k hi' hk, ← htk, List.getElem?_take_of_lt (by omega)]
        simp [World.cell?, hg]
      rw [he]
      exact ⟨key 0 (by decide), key 1 (by decide), key 2 (by decide), key 3 (by decide), key 4 (by decide), key 6 (by decide), R[i].2, key 5 (by decide), (hk _ (List.getElem_mem hi')).weak fun p n c hq b o hp => ⟨(hq b o hp).1, (hq b o hp).2.1, by simp⟩⟩
theorem Kids.off {C S : Nat} {w w' : World} {v : Value} {l : List Nd} (h : Kids w (kidH C S none) v l) (hb : ∀ b, C ≤ b → w'.heap[b]? = w.heap[b]?) : Kids w' (kidH C S none) v l :=
  h.keep fun p n c b o j u hq hp hj => by
    rw [World.cell?_of_block (w := w) (a := ⟨b, o + j, none⟩) (hb b (hq b o hp).1)]
    exact hj

end Go.Proofs.Ytbmkddmmclndcaa
namespace Go.Proofs.Ytbmkddmmclndcaa
set_option linter.unusedVariables false

/-- The value of rung k, in units of the least place; p: the fraction's bits. -/
def V (p k : Nat) : Nat := if k < 2 ^ p then k else (2 ^ p + k % 2 ^ p) * 2 ^ (k / 2 ^ p - 1)

/-- The rung nearest to mag * 2^place. -/
def rungOf (p : Nat) (L : Int) (mag : Nat) (place : Int) : Nat :=
  if mag = 0 then 0 else
  (max (place + mag.log2 - p) L - L).toNat * 2 ^ p + Ieee.Toward.even.cut false (mag <<< (place - max (place + mag.log2 - p) L).toNat) (max (place + mag.log2 - p) L - place).toNat

theorem nearest_eq (f : Ieee.Format) (neg : Bool) (mag : Nat) (place : Int) :
    f.nearest neg mag place = f.word neg (min (rungOf f.fractionBits f.leastPlace mag place) f.infRung) := by
  unfold Ieee.Format.nearest rungOf
  by_cases h : mag = 0
  · rw [if_pos h, if_pos h, Nat.zero_min]
  · rw [if_neg h, if_neg h]; rfl

/-! ## Words of binary32 -/
def ng (a : Nat) : Bool := a / 2147483648 % 2 == 1
def rg (a : Nat) : Nat := a % 2147483648
def mv (a : Nat) : Nat := V 23 (rg a)
def sg (s : Bool) (m : Nat) : Int := if s then -(m : Int) else m
def sv (a : Nat) : Int := sg (ng a) (mv a)
def wd (s : Bool) (r : Nat) : Nat := if s then 2147483648 + min r 2139095040 else min r 2139095040
def R (n : Nat) : Nat := rungOf 23 (-149) n (-149)

theorem word_wd (s : Bool) (r : Nat) : Ieee.single.word s (min r Ieee.single.infRung) = wd s r := rfl

end Go.Proofs.Ytbmkddmmclndcaa
/- The operations of binary32 as functions of patterns, and what the machine's NaNs come to. -/
namespace Go.Proofs.Ytbmkddmmclndcaa
set_option linter.unusedVariables false

def ffrom (n : Int) : Int := (Ieee.single.nearest (decide (n < 0)) n.natAbs 0 : Nat)
def fneg (a : Int) : Int := canon (if 2147483648 ≤ a then a - 2147483648 else a + 2147483648)
theorem rg_wd (s : Bool) (r : Nat) : rg (wd s r) = min r 2139095040 := by
  unfold rg wd; split <;> omega
theorem write_num (d : Ieee.Datum) (h : d.isNaN = false) : rg (Ieee.single.write d) ≤ 2139095040 := by
  cases d with
  | number s m e => show rg (Ieee.single.nearest s m e) ≤ _; rw [nearest_eq, word_wd, rg_wd]; omega
  | infinity s => show rg (wd s 2139095040) ≤ _; rw [rg_wd]; omega
  | nan s t => simp [Ieee.Datum.isNaN] at h

theorem nan_nat (r : Nat) : nan (r : Int) = decide (2139095040 < rg r) := by unfold nan rg; rw [decide_eq_decide]; omega
theorem canon_num {r : Nat} (h : rg r ≤ 2139095040) : canon (r : Int) = r := by
  unfold canon; rw [nan_nat]; simp; omega
section
variable {P : Program} (w : World)
end

end Go.Proofs.Ytbmkddmmclndcaa
/- Layer 12, plainly: aliases and lets. No program in it. (tool/layer12/genplain.py) -/
namespace Go.Proofs.Ytbmkddmmclndcaa
set_option linter.unusedVariables false
set_option linter.unusedSimpArgs false

/-- A row: an alias's name, its arguments' names, their values. -/
structure Rw where
  name : ByteArray
  args : List ByteArray
  vals : List Nd
def noneN : Nd := ⟨0, ⟨#[]⟩, 0, 0, ⟨#[]⟩, [], 0⟩
def numN (f : Int) : Nd := ⟨2, ⟨#[]⟩, f, 0, ⟨#[]⟩, [], 0⟩
def flagN (s : ByteArray) : Nd := ⟨4, s, 0, 0, ⟨#[]⟩, [], 0⟩
def callA (nm : ByteArray) (l : List Nd) : Nd := ⟨1, nm, 0, 0, ⟨#[]⟩, l, 0⟩
def madeN (a : Int) (nm : ByteArray) (l : List Nd) : Nd := ⟨1, nm, 0, 0, ⟨#[]⟩, l, a⟩
def row0 : Rw := ⟨⟨#[97, 100, 97, 98, 101, 108, 105, 101, 102]⟩, [⟨#[114, 97, 116, 101]⟩, ⟨#[98, 49]⟩, ⟨#[98, 50]⟩, ⟨#[101, 112, 115]⟩, ⟨#[101, 112, 115, 95, 114, 111, 111, 116]⟩], [noneN, numN 1063675494, numN 1065336439, numN 619091349, numN 619091349]⟩ -- adabelief
def row1 : Rw := ⟨⟨#[97, 100, 97, 100, 101, 108, 116, 97]⟩, [⟨#[114, 97, 116, 101]⟩, ⟨#[114, 104, 111]⟩, ⟨#[101, 112, 115]⟩], [noneN, numN 1063675494, numN 897988541]⟩ -- adadelta
def row2 : Rw := ⟨⟨#[97, 100, 97, 103, 114, 97, 100]⟩, [⟨#[114, 97, 116, 101]⟩, ⟨#[105, 110, 105, 116, 105, 97, 108]⟩, ⟨#[101, 112, 115]⟩], [noneN, numN 1036831949, numN 869711765]⟩ -- adagrad
def row3 : Rw := ⟨⟨#[97, 100, 97, 109]⟩, [⟨#[114, 97, 116, 101]⟩, ⟨#[98, 49]⟩, ⟨#[98, 50]⟩, ⟨#[101, 112, 115]⟩, ⟨#[101, 112, 115, 95, 114, 111, 111, 116]⟩], [noneN, numN 1063675494, numN 1065336439, numN 841731191, numN 0]⟩ -- adam
def row4 : Rw := ⟨⟨#[97, 100, 97, 109, 97, 120]⟩, [⟨#[114, 97, 116, 101]⟩, ⟨#[98, 49]⟩, ⟨#[98, 50]⟩, ⟨#[101, 112, 115]⟩], [noneN, numN 1063675494, numN 1065336439, numN 841731191]⟩ -- adamax
def row5 : Rw := ⟨⟨#[97, 100, 97, 109, 119]⟩, [⟨#[114, 97, 116, 101]⟩, ⟨#[98, 49]⟩, ⟨#[98, 50]⟩, ⟨#[101, 112, 115]⟩, ⟨#[101, 112, 115, 95, 114, 111, 111, 116]⟩, ⟨#[119, 101, 105, 103, 104, 116, 95, 100, 101, 99, 97, 121]⟩, ⟨#[109, 97, 115, 107]⟩], [noneN, numN 1063675494, numN 1065336439, numN 841731191, numN 0, numN 953267991, callA ⟨#[97, 108, 108]⟩ []]⟩ -- adamw
def row6 : Rw := ⟨⟨#[97, 103, 99]⟩, [⟨#[114, 97, 116, 101]⟩, ⟨#[99, 108, 105, 112, 112, 105, 110, 103]⟩, ⟨#[101, 112, 115]⟩, ⟨#[109, 111, 109, 101, 110, 116, 117, 109]⟩, ⟨#[110, 101, 115, 116, 101, 114, 111, 118]⟩], [noneN, numN 1036831949, numN 981668463, numN 0, flagN ⟨#[102, 97, 108, 115, 101]⟩]⟩ -- agc
def row7 : Rw := ⟨⟨#[97, 109, 115, 103, 114, 97, 100]⟩, [⟨#[114, 97, 116, 101]⟩, ⟨#[98, 49]⟩, ⟨#[98, 50]⟩, ⟨#[101, 112, 115]⟩, ⟨#[101, 112, 115, 95, 114, 111, 111, 116]⟩], [noneN, numN 1063675494, numN 1065336439, numN 841731191, numN 0]⟩ -- amsgrad
def row8 : Rw := ⟨⟨#[108, 97, 109, 98]⟩, [⟨#[114, 97, 116, 101]⟩, ⟨#[98, 49]⟩, ⟨#[98, 50]⟩, ⟨#[101, 112, 115]⟩, ⟨#[101, 112, 115, 95, 114, 111, 111, 116]⟩, ⟨#[119, 101, 105, 103, 104, 116, 95, 100, 101, 99, 97, 121]⟩, ⟨#[109, 97, 115, 107]⟩], [noneN, numN 1063675494, numN 1065336439, numN 897988541, numN 0, numN 0, callA ⟨#[97, 108, 108]⟩ []]⟩ -- lamb
def row9 : Rw := ⟨⟨#[108, 97, 114, 115]⟩, [⟨#[114, 97, 116, 101]⟩, ⟨#[119, 101, 105, 103, 104, 116, 95, 100, 101, 99, 97, 121]⟩, ⟨#[116, 114, 117, 115, 116, 95, 99, 111, 101, 102, 102, 105, 99, 105, 101, 110, 116]⟩, ⟨#[101, 112, 115]⟩, ⟨#[109, 111, 109, 101, 110, 116, 117, 109]⟩, ⟨#[110, 101, 115, 116, 101, 114, 111, 118]⟩], [noneN, numN 0, numN 981668463, numN 0, numN 1063675494, flagN ⟨#[102, 97, 108, 115, 101]⟩]⟩ -- lars
def row10 : Rw := ⟨⟨#[108, 105, 111, 110]⟩, [⟨#[114, 97, 116, 101]⟩, ⟨#[98, 49]⟩, ⟨#[98, 50]⟩, ⟨#[119, 101, 105, 103, 104, 116, 95, 100, 101, 99, 97, 121]⟩, ⟨#[109, 97, 115, 107]⟩], [noneN, numN 1063675494, numN 1065185444, numN 981668463, callA ⟨#[97, 108, 108]⟩ []]⟩ -- lion
def row11 : Rw := ⟨⟨#[110, 111, 118, 111, 103, 114, 97, 100]⟩, [⟨#[114, 97, 116, 101]⟩, ⟨#[98, 49]⟩, ⟨#[98, 50]⟩, ⟨#[101, 112, 115]⟩, ⟨#[101, 112, 115, 95, 114, 111, 111, 116]⟩, ⟨#[119, 101, 105, 103, 104, 116, 95, 100, 101, 99, 97, 121]⟩], [noneN, numN 1063675494, numN 1048576000, numN 897988541, numN 0, numN 0]⟩ -- novograd
def row12 : Rw := ⟨⟨#[111, 112, 116, 105, 109, 105, 115, 116, 105, 99]⟩, [⟨#[114, 97, 116, 101]⟩, ⟨#[97, 108, 112, 104, 97]⟩, ⟨#[98, 101, 116, 97]⟩], [noneN, numN 1065353216, numN 1065353216]⟩ -- optimistic
def row13 : Rw := ⟨⟨#[114, 109, 115, 112, 114, 111, 112]⟩, [⟨#[114, 97, 116, 101]⟩, ⟨#[100, 101, 99, 97, 121]⟩, ⟨#[101, 112, 115]⟩, ⟨#[105, 110, 105, 116, 105, 97, 108]⟩, ⟨#[109, 111, 109, 101, 110, 116, 117, 109]⟩], [noneN, numN 1063675494, numN 841731191, numN 0, numN 0]⟩ -- rmsprop
def row14 : Rw := ⟨⟨#[115, 99, 97, 108, 101, 95, 98, 121, 95, 108, 101, 97, 114, 110, 105, 110, 103, 95, 114, 97, 116, 101]⟩, [⟨#[114, 97, 116, 101]⟩], [noneN]⟩ -- scale_by_learning_rate
def row15 : Rw := ⟨⟨#[115, 103, 100]⟩, [⟨#[114, 97, 116, 101]⟩, ⟨#[109, 111, 109, 101, 110, 116, 117, 109]⟩, ⟨#[110, 101, 115, 116, 101, 114, 111, 118]⟩], [noneN, numN 0, flagN ⟨#[102, 97, 108, 115, 101]⟩]⟩ -- sgd
def row16 : Rw := ⟨⟨#[121, 111, 103, 105]⟩, [⟨#[114, 97, 116, 101]⟩, ⟨#[98, 49]⟩, ⟨#[98, 50]⟩, ⟨#[101, 112, 115]⟩, ⟨#[105, 110, 105, 116, 105, 97, 108]⟩], [noneN, numN 1063675494, numN 1065336439, numN 981668463, numN 897988541]⟩ -- yogi
def rowsA : List Rw := [row0, row1, row2, row3, row4, row5, row6, row7, row8, row9, row10, row11, row12, row13, row14, row15, row16]

def sameB (a b : ByteArray) : Bool := a.toList == b.toList
def findA (t : Nd) : Option Rw := if t.kind == 1 then rowsA.find? (fun r => sameB r.name t.name) else none
/-- The place of an argument's name, from a place on. -/
def placeI : List ByteArray → ByteArray → Option Nat
  | [], _ => none
  | x :: l, key => if sameB x key then some 0 else (placeI l key).map (· + 1)

/-- Which argument of the row each one given is; or the error and its place. -/
def givenL (r : Rw) : List Nd → Nat → Bool → List Nat → Except (Int × Int) (List Nat)
  | [], _, _, taken => .ok taken
  | ⟨_, _, _, _, key, _, a⟩ :: l, next, keyed, taken =>
    if key.size != 0 then
      match placeI r.args key with
      | none => .error (132, a)
      | some k => if taken.contains k then .error (132, a) else givenL r l next true (taken ++ [k])
    else if keyed then .error (132, a)
    else if r.args.length ≤ next then .error (131, a)
    else givenL r l (next + 1) false (taken ++ [next])
def givenP (r : Rw) (t : Nd) : Except (Int × Int) (List Nat) :=
  match givenL r t.args 0 false [] with
  | .error e => .error e
  | .ok l => if l.contains 0 then .ok l else .error (131, t.at_)
def errA (t : Nd) : Int × Int :=
  match findA t with
  | none => (0, 0)
  | some r => match givenP r t with | .error e => e | .ok _ => (0, 0)
def faultAL : List Nd → Int × Int
  | [] => (0, 0)
  | ⟨k, n, x, i, y, l, a⟩ :: r =>
    if (errA ⟨k, n, x, i, y, l, a⟩).1 ≠ 0 then errA ⟨k, n, x, i, y, l, a⟩
    else if (faultAL l).1 ≠ 0 then faultAL l else faultAL r
/-- The first fault of a tree, in order. -/
def faultA (t : Nd) : Int × Int := if (errA t).1 ≠ 0 then errA t else faultAL t.args
theorem faultAL_nil : faultAL [] = (0, 0) := by simp [faultAL]
theorem faultAL_cons (t : Nd) (r : List Nd) : faultAL (t :: r) = if (faultA t).1 ≠ 0 then faultA t else faultAL r := by
  cases t with
  | mk k n x i y l a =>
    simp only [faultAL, faultA]
    by_cases h : (errA ⟨k, n, x, i, y, l, a⟩).1 ≠ 0
    · simp [h]
    · simp [h]

/-- A node, and what is in it, at a place. -/
def placeL (a : Int) : List Nd → List Nd
  | [] => []
  | ⟨k, n, x, i, y, l, _⟩ :: r => ⟨k, n, x, i, y, placeL a l, a⟩ :: placeL a r
def placeN (t : Nd) (a : Int) : Nd := ⟨t.kind, t.name, t.num, t.int_, t.key, placeL a t.args, a⟩
theorem placeL_nil (a : Int) : placeL a [] = [] := by simp [placeL]
theorem placeL_cons (a : Int) (t : Nd) (r : List Nd) : placeL a (t :: r) = placeN t a :: placeL a r := by cases t; simp [placeL, placeN]
theorem placeL_map (a : Int) : ∀ l : List Nd, placeL a l = l.map (fun t => placeN t a)
  | [] => placeL_nil a
  | t :: r => by rw [placeL_cons, placeL_map a r]; rfl

def keyN (t : Nd) (k : ByteArray) : Nd := ⟨t.kind, t.name, t.num, t.int_, k, t.args, t.at_⟩
def argsN (t : Nd) (l : List Nd) : Nd := ⟨t.kind, t.name, t.num, t.int_, t.key, l, t.at_⟩

def rateA (a : Int) (r : Nd) : Nd :=
  if r.kind == 2 then madeN a ⟨#[115, 99, 97, 108, 101]⟩ [⟨2, ⟨#[]⟩, fneg r.num, 0, ⟨#[]⟩, [], r.at_⟩]
  else if r.kind == 3 then madeN a ⟨#[115, 99, 97, 108, 101]⟩ [⟨2, ⟨#[]⟩, fneg (ffrom r.int_), 0, ⟨#[]⟩, [], r.at_⟩]
  else madeN a ⟨#[99, 104, 97, 105, 110]⟩ [madeN a ⟨#[115, 99, 97, 108, 101, 95, 98, 121, 95, 115, 99, 104, 101, 100, 117, 108, 101]⟩ [r], madeN a ⟨#[115, 99, 97, 108, 101]⟩ [placeN (numN 3212836864) a]]
def decA (a : Int) (mask weight : Nd) : Nd := madeN a ⟨#[109, 97, 115, 107, 101, 100]⟩ [mask, madeN a ⟨#[97, 100, 100, 95, 100, 101, 99, 97, 121, 101, 100, 95, 119, 101, 105, 103, 104, 116, 115]⟩ [weight]]
def ix (l : List Nd) (i : Nat) : Nd := l.getD i noneN
/-- An alias's expansion, of its arguments. -/
def becA (nm : ByteArray) (a : Int) (l : List Nd) : Nd :=
  if sameB nm ⟨#[115, 99, 97, 108, 101, 95, 98, 121, 95, 108, 101, 97, 114, 110, 105, 110, 103, 95, 114, 97, 116, 101]⟩ then rateA a (ix l 0)
  else if sameB nm ⟨#[115, 103, 100]⟩ then madeN a ⟨#[99, 104, 97, 105, 110]⟩ [madeN a ⟨#[116, 114, 97, 99, 101]⟩ [ix l 1, ix l 2], rateA a (ix l 0)]
  else if sameB nm ⟨#[97, 100, 97, 109]⟩ then madeN a ⟨#[99, 104, 97, 105, 110]⟩ [madeN a ⟨#[115, 99, 97, 108, 101, 95, 98, 121, 95, 97, 100, 97, 109]⟩ (l.drop 1), rateA a (ix l 0)]
  else if sameB nm ⟨#[97, 109, 115, 103, 114, 97, 100]⟩ then madeN a ⟨#[99, 104, 97, 105, 110]⟩ [madeN a ⟨#[115, 99, 97, 108, 101, 95, 98, 121, 95, 97, 109, 115, 103, 114, 97, 100]⟩ (l.drop 1), rateA a (ix l 0)]
  else if sameB nm ⟨#[97, 100, 97, 98, 101, 108, 105, 101, 102]⟩ then madeN a ⟨#[99, 104, 97, 105, 110]⟩ [madeN a ⟨#[115, 99, 97, 108, 101, 95, 98, 121, 95, 98, 101, 108, 105, 101, 102]⟩ (l.drop 1), rateA a (ix l 0)]
  else if sameB nm ⟨#[121, 111, 103, 105]⟩ then madeN a ⟨#[99, 104, 97, 105, 110]⟩ [madeN a ⟨#[115, 99, 97, 108, 101, 95, 98, 121, 95, 121, 111, 103, 105]⟩ (l.drop 1), rateA a (ix l 0)]
  else if sameB nm ⟨#[97, 100, 97, 100, 101, 108, 116, 97]⟩ then madeN a ⟨#[99, 104, 97, 105, 110]⟩ [madeN a ⟨#[115, 99, 97, 108, 101, 95, 98, 121, 95, 97, 100, 97, 100, 101, 108, 116, 97]⟩ (l.drop 1), rateA a (ix l 0)]
  else if sameB nm ⟨#[97, 100, 97, 109, 97, 120]⟩ then madeN a ⟨#[99, 104, 97, 105, 110]⟩ [madeN a ⟨#[115, 99, 97, 108, 101, 95, 98, 121, 95, 97, 100, 97, 109, 97, 120]⟩ (l.drop 1), rateA a (ix l 0)]
  else if sameB nm ⟨#[110, 111, 118, 111, 103, 114, 97, 100]⟩ then madeN a ⟨#[99, 104, 97, 105, 110]⟩ [madeN a ⟨#[115, 99, 97, 108, 101, 95, 98, 121, 95, 110, 111, 118, 111, 103, 114, 97, 100]⟩ (l.drop 1), rateA a (ix l 0)]
  else if sameB nm ⟨#[111, 112, 116, 105, 109, 105, 115, 116, 105, 99]⟩ then madeN a ⟨#[99, 104, 97, 105, 110]⟩ [madeN a ⟨#[115, 99, 97, 108, 101, 95, 98, 121, 95, 111, 112, 116, 105, 109, 105, 115, 116, 105, 99, 95, 103, 114, 97, 100, 105, 101, 110, 116]⟩ (l.drop 1), rateA a (ix l 0)]
  else if sameB nm ⟨#[97, 103, 99]⟩ then madeN a ⟨#[99, 104, 97, 105, 110]⟩ [madeN a ⟨#[97, 100, 97, 112, 116, 105, 118, 101, 95, 103, 114, 97, 100, 95, 99, 108, 105, 112]⟩ ((l.drop 1).take 2), madeN a ⟨#[116, 114, 97, 99, 101]⟩ (l.drop 3), rateA a (ix l 0)]
  else if sameB nm ⟨#[97, 100, 97, 103, 114, 97, 100]⟩ then madeN a ⟨#[99, 104, 97, 105, 110]⟩ [madeN a ⟨#[115, 99, 97, 108, 101, 95, 98, 121, 95, 114, 115, 115]⟩ (l.drop 1), rateA a (ix l 0)]
  else if sameB nm ⟨#[97, 100, 97, 109, 119]⟩ then madeN a ⟨#[99, 104, 97, 105, 110]⟩ [madeN a ⟨#[115, 99, 97, 108, 101, 95, 98, 121, 95, 97, 100, 97, 109]⟩ ((l.drop 1).take 4), decA a (ix l 6) (ix l 5), rateA a (ix l 0)]
  else if sameB nm ⟨#[114, 109, 115, 112, 114, 111, 112]⟩ then madeN a ⟨#[99, 104, 97, 105, 110]⟩ [madeN a ⟨#[115, 99, 97, 108, 101, 95, 98, 121, 95, 114, 109, 115]⟩ ((l.drop 1).take 3), rateA a (ix l 0), madeN a ⟨#[116, 114, 97, 99, 101]⟩ [ix l 4, placeN (flagN ⟨#[102, 97, 108, 115, 101]⟩) a]]
  else if sameB nm ⟨#[108, 105, 111, 110]⟩ then madeN a ⟨#[99, 104, 97, 105, 110]⟩ [madeN a ⟨#[115, 99, 97, 108, 101, 95, 98, 121, 95, 108, 105, 111, 110]⟩ ((l.drop 1).take 2), decA a (ix l 4) (ix l 3), rateA a (ix l 0)]
  else if sameB nm ⟨#[108, 97, 109, 98]⟩ then madeN a ⟨#[99, 104, 97, 105, 110]⟩ [madeN a ⟨#[115, 99, 97, 108, 101, 95, 98, 121, 95, 97, 100, 97, 109]⟩ ((l.drop 1).take 4), decA a (ix l 6) (ix l 5), placeN (callA ⟨#[115, 99, 97, 108, 101, 95, 98, 121, 95, 116, 114, 117, 115, 116, 95, 114, 97, 116, 105, 111]⟩ [numN 0, numN 1065353216, numN 0]) a, rateA a (ix l 0)]
  else madeN a ⟨#[99, 104, 97, 105, 110]⟩ [madeN a ⟨#[97, 100, 100, 95, 100, 101, 99, 97, 121, 101, 100, 95, 119, 101, 105, 103, 104, 116, 115]⟩ [ix l 1], madeN a ⟨#[115, 99, 97, 108, 101, 95, 98, 121, 95, 116, 114, 117, 115, 116, 95, 114, 97, 116, 105, 111]⟩ [placeN (numN 0) a, ix l 2, ix l 3], rateA a (ix l 0), madeN a ⟨#[116, 114, 97, 99, 101]⟩ [ix l 4, ix l 5]]

/-- The arguments given, each at its place. -/
def fillA : List Nat → List Nd → List Nd → List Nd
  | k :: w, x :: l, a => fillA w l (a.set k (keyN x ⟨#[]⟩))
  | _, _, a => a
def oneA (t : Nd) (l : List Nd) : Nd :=
  match findA t with
  | none => argsN t l
  | some r =>
    let which := match givenP r t with | .ok w => w | .error _ => []
    keyN (becA t.name t.at_ (fillA which l (r.vals.map fun v => placeN v t.at_))) t.key
def wholeL : List Nd → List Nd
  | [] => []
  | ⟨k, n, x, i, y, l, a⟩ :: r => oneA ⟨k, n, x, i, y, l, a⟩ (wholeL l) :: wholeL r
/-- A tree with all aliases replaced. -/
def wholeN (t : Nd) : Nd := oneA t (wholeL t.args)
theorem wholeL_nil : wholeL [] = [] := by simp [wholeL]
theorem wholeL_cons (t : Nd) (r : List Nd) : wholeL (t :: r) = wholeN t :: wholeL r := by cases t; simp [wholeL, wholeN]
theorem wholeL_map : ∀ l : List Nd, wholeL l = l.map wholeN
  | [] => wholeL_nil
  | t :: r => by rw [wholeL_cons, wholeL_map r]; rfl

/-- The lets of a tree, and its program. -/
def letsF : Nat → Nd → List (ByteArray × Nd) × Nd
  | 0, t => ([], t)
  | n + 1, t => if t.kind == 6 then (((t.name, ix t.args 0) :: (letsF n (ix t.args 1)).1), (letsF n (ix t.args 1)).2) else ([], t)
def letsA (t : Nd) : List (ByteArray × Nd) × Nd := letsF (dep t) t
/-- Values of lets, written out; the newest first. -/
abbrev Env := List (ByteArray × Nd)
def lookE (e : Env) (nm : ByteArray) : Option Nd := (e.find? fun p => sameB p.1 nm).map (·.2)
def wrOne (e : Env) (t : Nd) (l : List Nd) : Nd :=
  if t.kind == 4 then (match lookE e t.name with | some v => keyN (placeN v t.at_) t.key | none => argsN t l) else argsN t l
def wrL (e : Env) : List Nd → List Nd
  | [] => []
  | ⟨k, n, x, i, y, l, a⟩ :: r => wrOne e ⟨k, n, x, i, y, l, a⟩ (wrL e l) :: wrL e r
/-- A node written out. -/
def wrN (e : Env) (t : Nd) : Nd := wrOne e t (wrL e t.args)
theorem wrL_nil (e : Env) : wrL e [] = [] := by simp [wrL]
theorem wrL_cons (e : Env) (t : Nd) (r : List Nd) : wrL e (t :: r) = wrN e t :: wrL e r := by cases t; simp [wrL, wrN]
theorem wrL_map (e : Env) : ∀ l : List Nd, wrL e l = l.map (wrN e)
  | [] => wrL_nil e
  | t :: r => by rw [wrL_cons, wrL_map e r]; rfl
/-- The values of the first so many lets, written out. -/
def envA : List (ByteArray × Nd) → Env
  | l => l.foldl (fun e p => (p.1, wrN e p.2) :: e) []
theorem envA_snoc (l : List (ByteArray × Nd)) (p : ByteArray × Nd) : envA (l ++ [p]) = (p.1, wrN (envA l) p.2) :: envA l := by simp [envA]
/-- A tree written out. -/
def writtenA (t : Nd) : Nd := wrN (envA (letsA t).1) (letsA t).2

structure ExpR where
  tree : Nd
  err : Int
  place : Int
end Go.Proofs.Ytbmkddmmclndcaa
/- A region that draws its order: each operation by what it yields, whatever the order. No program in it. -/
namespace Go.Proofs.Ytbmkddmmclndcaa
open Go.RowKit
set_option linter.unusedVariables false

/-- Between two operations. -/
structure Each (ops : Array Oper) (Post : Nat → Value → World → Prop) (a0 : Act) (w0 : World) (listed : Array Bool) (a : Act) (w : World) : Prop where
  defers : a.defers = a0.defers
  size : a.tmps.size = a0.tmps.size
  ls : listed.size = ops.size
  below : Below w0.heap.size w0 w
  rest : ∀ (s : Nat), (∀ (i : Nat) (o : Oper), ops[i]? = some o → o.dst ≠ some s) → a.tmps[s]? = a0.tmps[s]?
  posts : ∀ (i : Nat) (o : Oper) (t : Tmp), ops[i]? = some o → o.dst = some t → listed.getD i false = true → ∃ v, a.tmps[t]? = some v ∧ Post i v w

variable {P : Program} {ops : Array Oper} {Q : Exit → Act → World → Prop} {Post : Nat → Value → World → Prop} {base : List (Nat × Value)} {a0 : Act} {w0 : World}

end Go.Proofs.Ytbmkddmmclndcaa
/- The reference: num, flag, call without arguments. -/
namespace Go.Proofs.Ytbmkddmmclndcaa
open Go.RowKit
set_option linter.unusedVariables false
set_option linter.unusedSimpArgs false

theorem box_heapA (w : World) (x : Obj) : (w.alloc x).heap[w.heap.size]? = some x := (MapKept.heap_alloc w _).1
theorem at_cellA {w : World} {C : Nat} {a : Array Value} {t : TypeId} (h : w.heap[C]? = some (.cells a t)) (i : Nat) {u : Value} (e : a[i]? = some u) : w.cell? ⟨C, i, none⟩ = some u ∧ w.frozen? ⟨C, i, none⟩ = false := by
  constructor
  · simp [World.cell?, h, e]
  · simp [World.frozen?, h]
theorem sevenA {v : World} {R : Nat} {a0 a1 a2 a3 a4 a5 a6 : Value} {t : TypeId} (h : v.heap[R]? = some (.cells #[a0, a1, a2, a3, a4, a5, a6] t)) :
    (v.cell? ⟨R, 0, none⟩ = some a0 ∧ v.cell? ⟨R, 1, none⟩ = some a1 ∧ v.cell? ⟨R, 2, none⟩ = some a2 ∧ v.cell? ⟨R, 3, none⟩ = some a3 ∧ v.cell? ⟨R, 4, none⟩ = some a4 ∧ v.cell? ⟨R, 5, none⟩ = some a5 ∧ v.cell? ⟨R, 6, none⟩ = some a6)
    ∧ (v.frozen? ⟨R, 0, none⟩ = false ∧ v.frozen? ⟨R, 1, none⟩ = false ∧ v.frozen? ⟨R, 2, none⟩ = false ∧ v.frozen? ⟨R, 3, none⟩ = false ∧ v.frozen? ⟨R, 4, none⟩ = false ∧ v.frozen? ⟨R, 5, none⟩ = false ∧ v.frozen? ⟨R, 6, none⟩ = false) :=
  ⟨⟨(at_cellA h 0 rfl).1, (at_cellA h 1 rfl).1, (at_cellA h 2 rfl).1, (at_cellA h 3 rfl).1, (at_cellA h 4 rfl).1, (at_cellA h 5 rfl).1, (at_cellA h 6 rfl).1⟩,
    (at_cellA h 0 rfl).2, (at_cellA h 1 rfl).2, (at_cellA h 2 rfl).2, (at_cellA h 3 rfl).2, (at_cellA h 4 rfl).2, (at_cellA h 5 rfl).2, (at_cellA h 6 rfl).2⟩
theorem below_seven {w W : World} (h : Below w.heap.size w W) (a b c d e f g : Value) : Below w.heap.size w (((((((W.setCell ⟨w.heap.size, 0, none⟩ a).setCell ⟨w.heap.size, 1, none⟩ b).setCell ⟨w.heap.size, 2, none⟩ c).setCell ⟨w.heap.size, 3, none⟩ d).setCell ⟨w.heap.size, 4, none⟩ e).setCell ⟨w.heap.size, 5, none⟩ f).setCell ⟨w.heap.size, 6, none⟩ g) :=
  ((((((h.setCell (p := ⟨w.heap.size, 0, none⟩) (Nat.le_refl _) _).setCell (p := ⟨w.heap.size, 1, none⟩) (Nat.le_refl _) _).setCell (p := ⟨w.heap.size, 2, none⟩) (Nat.le_refl _) _).setCell (p := ⟨w.heap.size, 3, none⟩) (Nat.le_refl _) _).setCell (p := ⟨w.heap.size, 4, none⟩) (Nat.le_refl _) _).setCell (p := ⟨w.heap.size, 5, none⟩) (Nat.le_refl _) _).setCell (p := ⟨w.heap.size, 6, none⟩) (Nat.le_refl _) _
theorem put_oneA {v : World} {R : Nat} {cs : Array Value} {t : TypeId} (h : v.heap[R]? = some (.cells cs t)) (i : Nat) (b : Value) : (v.setCell ⟨R, i, none⟩ b).heap[R]? = some (.cells (cs.setIfInBounds i b) t) := by
  simp [World.setCell, Array.getElem?_modify, h]
theorem put_sevenA {v : World} {R : Nat} {a0 a1 a2 a3 a4 a5 a6 : Value} {t : TypeId} (h : v.heap[R]? = some (.cells #[a0, a1, a2, a3, a4, a5, a6] t)) (b0 b1 b2 b3 b4 b5 b6 : Value) :
    (((((((v.setCell ⟨R, 0, none⟩ b0).setCell ⟨R, 1, none⟩ b1).setCell ⟨R, 2, none⟩ b2).setCell ⟨R, 3, none⟩ b3).setCell ⟨R, 4, none⟩ b4).setCell ⟨R, 5, none⟩ b5).setCell ⟨R, 6, none⟩ b6).heap[R]? = some (.cells #[b0, b1, b2, b3, b4, b5, b6] t) := by
  have h7 := put_oneA (put_oneA (put_oneA (put_oneA (put_oneA (put_oneA (put_oneA h 0 b0) 1 b1) 2 b2) 3 b3) 4 b4) 5 b5) 6 b6
  simp only [List.setIfInBounds_toArray, List.set_cons_zero, List.set_cons_succ] at h7
  exact h7
/-- A new box for a node. -/
theorem new_box (w : World) : ∃ W, w.alloc (.cells #[.int .i64 0, .string ⟨#[]⟩, .int .u32 0, .int .i64 0, .string ⟨#[]⟩, .slice none 0 0, .int .i64 0] 26) = W ∧ W.heap[w.heap.size]? = some (.cells #[.int .i64 0, .string ⟨#[]⟩, .int .u32 0, .int .i64 0, .string ⟨#[]⟩, .slice none 0 0, .int .i64 0] 26) ∧ Below w.heap.size w W ∧ W.heap.size = w.heap.size + 1 :=
  ⟨_, rfl, box_heapA w _, (Below.refl _ _).alloc (Nat.le_refl _) _, by simp⟩

end Go.Proofs.Ytbmkddmmclndcaa
/- The reference: Rows. (tool/layer12/genrows.py) -/
namespace Go.Proofs.Ytbmkddmmclndcaa
open Go.RowKit
set_option linter.unusedVariables false
set_option linter.unusedSimpArgs false

def findA3 (n : Nat) : Code → Option Code
  | .region k ops d => if k = n then some (.region k ops d) else none
  | .seq a b => match findA3 n a with | some c => some c | none => findA3 n b
  | .cond _ a b => match findA3 n a with | some c => some c | none => findA3 n b
  | .block _ a => findA3 n a
  | .loop a => findA3 n a
  | _ => none
def opsOf : Code → Array Oper
  | .region _ ops _ => ops
  | _ => #[]

noncomputable def opsR : Array Oper := opsOf (((Try.f17.body).bind (findA3 3)).getD .skip)
end Go.Proofs.Ytbmkddmmclndcaa
/- The reference: Rows, the walk. -/
namespace Go.Proofs.Ytbmkddmmclndcaa
open Go.RowKit
set_option linter.unusedVariables false
set_option linter.unusedSimpArgs false

end Go.Proofs.Ytbmkddmmclndcaa
/- The reference: find, place. -/
namespace Go.Proofs.Ytbmkddmmclndcaa
open Go.RowKit
set_option linter.unusedVariables false
set_option linter.unusedSimpArgs false

end Go.Proofs.Ytbmkddmmclndcaa
/- The reference: place. -/
namespace Go.Proofs.Ytbmkddmmclndcaa
open Go.RowKit
set_option linter.unusedVariables false
set_option linter.unusedSimpArgs false

end Go.Proofs.Ytbmkddmmclndcaa
/- The reference: given. -/
namespace Go.Proofs.Ytbmkddmmclndcaa
open Go.RowKit
set_option linter.unusedVariables false
set_option linter.unusedSimpArgs false

theorem take_succA {α : Type} {l : List α} {i : Nat} (h : i < l.length) : l.take (i + 1) = l.take i ++ [l[i]] := by simp
end Go.Proofs.Ytbmkddmmclndcaa
/- The reference: given, the walk. -/
namespace Go.Proofs.Ytbmkddmmclndcaa
open Go.RowKit
set_option linter.unusedVariables false
set_option linter.unusedSimpArgs false

end Go.Proofs.Ytbmkddmmclndcaa
/- The reference: fault. -/
namespace Go.Proofs.Ytbmkddmmclndcaa
open Go.RowKit
set_option linter.unusedVariables false
set_option linter.unusedSimpArgs false

theorem rows_len : ∀ r ∈ rowsA, r.args.length ≤ 7 ∧ r.vals.length = r.args.length := by
  intro r hr
  simp only [rowsA, List.mem_cons, List.not_mem_nil, or_false] at hr
  rcases hr with rfl | rfl | rfl | rfl | rfl | rfl | rfl | rfl | rfl | rfl | rfl | rfl | rfl | rfl | rfl | rfl | rfl <;> exact ⟨by decide, rfl⟩
end Go.Proofs.Ytbmkddmmclndcaa
/- The reference: placed. (tool/layer12/gentwin.py) -/
namespace Go.Proofs.Ytbmkddmmclndcaa
open Go.RowKit
set_option linter.unusedVariables false
set_option linter.unusedSimpArgs false

end Go.Proofs.Ytbmkddmmclndcaa
/- The statements' own twin. (tool/layer12/gentwin.py) -/
namespace Go.Proofs.Ytbmkddmmclndcaa
open Go.RowKit
set_option linter.unusedVariables false
set_option linter.unusedSimpArgs false

def idN (t : Nd) : Nd := ⟨t.kind, t.name, t.num, t.int_, t.key, t.args, t.at_⟩
theorem idN_eq (t : Nd) : idN t = t := by cases t; rfl
theorem idN_args (t : Nd) : (idN t).args = t.args.map (fun x => idN x) := by
  show t.args = _
  rw [show (fun x => idN x) = id from funext idN_eq, List.map_id]
def TwinA (N : Nat) : Prop := ∀ (t : Nd) (p : Option Addr) (c : Nat) (w : World), dep t ≤ N → cnt t ≤ 40000 → Kids w anyH (.slice p t.args.length c) t.args →
  Calls Try.prog 10 #[nv t (.slice p t.args.length c)] w fun e w' => ∃ p' n' c', e = .returned (nv (idN t) (.slice p' n' c')) ∧ Kids w' (kidH w.heap.size w'.heap.size none) (.slice p' n' c') (idN t).args ∧ Below w.heap.size w w'
set_option maxRecDepth 100000 in
set_option maxHeartbeats 4000000 in
theorem twinA_to : ∀ N, TwinA N := by
  intro N
  induction N with
  | zero => intro t p c w hd; unfold dep at hd; omega
  | succ N ih =>
    intro t p c w hd hc hk
    have hlen : t.args.length ≤ 40000 := by have := cntL_len t.args; unfold cnt at hc; omega
    obtain ⟨n, hn⟩ : ∃ n, t.args.length = n := ⟨_, rfl⟩
    have HN : Hid (t.args.length = n) := hn
    have HK : Hid (Kids w anyH (.slice p t.args.length c) t.args) := hk
    have HIH : Hid (TwinA N) := ih
    have HFA : Hid ((idN t).args = t.args.map (fun x => idN x)) := idN_args t
    obtain ⟨i0, hi0, hz0, hz1, hz2⟩ := info_parts info_Node
    rw [show nv t (.slice p t.args.length c) = .agg #[.int .i64 t.kind, .string t.name, .int .u32 t.num, .int .i64 t.int_, .string t.key, .slice p t.args.length c, .int .i64 t.at_] from rfl]
    rw [hn] at hlen ⊢
    obtain ⟨W2, hW2, hB2, hX2, hZ2, hs2⟩ : ∃ W2, (w.alloc (.cells #[.int .i64 t.kind, .string t.name, .int .u32 t.num, .int .i64 t.int_, .string t.key, .slice p n c, .int .i64 t.at_] 26)).alloc (.cells #[.int .i64 0, .string ⟨#[]⟩, .int .u32 0, .int .i64 0, .string ⟨#[]⟩, .slice none 0 0, .int .i64 0] 26) = W2 ∧ Below w.heap.size w W2 ∧ W2.heap[w.heap.size]? = some (.cells #[.int .i64 t.kind, .string t.name, .int .u32 t.num, .int .i64 t.int_, .string t.key, .slice p n c, .int .i64 t.at_] 26) ∧ W2.heap[w.heap.size + 1]? = some (.cells #[.int .i64 0, .string ⟨#[]⟩, .int .u32 0, .int .i64 0, .string ⟨#[]⟩, .slice none 0 0, .int .i64 0] 26) ∧ w.heap.size + 2 ≤ W2.heap.size := ⟨_, rfl, bel (bel_alloc _ _) (bel_alloc _ _), heap_old _ _ (box_heap _ _), two_heap _ _ _, by simp⟩
    obtain ⟨⟨g0, g1, g2, g3, g4, g5, g6⟩, f0, f1, f2, f3, f4, f5, f6⟩ := seven hX2
    have HBX : Hid (Below w.heap.size w W2 ∧ W2.heap[w.heap.size]? = some (.cells #[.int .i64 t.kind, .string t.name, .int .u32 t.num, .int .i64 t.int_, .string t.key, .slice p n c, .int .i64 t.at_] 26) ∧ W2.heap[w.heap.size + 1]? = some (.cells #[.int .i64 0, .string ⟨#[]⟩, .int .u32 0, .int .i64 0, .string ⟨#[]⟩, .slice none 0 0, .int .i64 0] 26) ∧ w.heap.size + 2 ≤ W2.heap.size) := ⟨hB2, hX2, hZ2, hs2⟩
    clear hn hk ih hB2 hX2 hZ2 hs2
    go_enter Try.func10, Try.ntmps10
    go_wp2
    clear g0 g1 g2 g3 g4 g5 g6 f0 f1 f2 f3 f4 f5 f6 hW2
    go_loopw [3, 4] (fun lv iv wr => Below w.heap.size w wr ∧ ∃ (j : Nat) (ov : Value), ov = lv ∧ j ≤ n ∧ iv = .int .i64 j ∧ w.heap.size + 2 ≤ wr.heap.size ∧ wr.heap[w.heap.size]? = some (.cells #[.int .i64 t.kind, .string t.name, .int .u32 t.num, .int .i64 t.int_, .string t.key, .slice p n c, .int .i64 t.at_] 26) ∧ wr.heap[w.heap.size + 1]? = some (.cells #[.int .i64 0, .string ⟨#[]⟩, .int .u32 0, .int .i64 0, .string ⟨#[]⟩, .slice none 0 0, .int .i64 0] 26) ∧ Hid (∃ R, RowN wr (w.heap.size + 2) ov ((t.args.take j).map (fun x => idN x)) R)) (fun _ iv _ => n - (intOf iv).toNat)
    case atStart => exact ⟨HBX.out.1, 0, _, rfl, Nat.zero_le _, rfl, HBX.out.2.2.2, HBX.out.2.1, HBX.out.2.2.1, [], by rw [List.take_zero]; exact RowN.nil _ _⟩
    case round =>
      obtain ⟨hb, j, ov, rfl, hj, rfl, hsz, hx, hz, R, hR⟩ := hrel
      have h5 := cell5 hx
      have HX : Hid (wr.heap[w.heap.size]? = some (.cells #[.int .i64 t.kind, .string t.name, .int .u32 t.num, .int .i64 t.int_, .string t.key, .slice p n c, .int .i64 t.at_] 26)) := hx
      have HZ : Hid (wr.heap[w.heap.size + 1]? = some (.cells #[.int .i64 0, .string ⟨#[]⟩, .int .u32 0, .int .i64 0, .string ⟨#[]⟩, .slice none 0 0, .int .i64 0] 26)) := hz
      by_cases hlt0 : j < n
      · have hll : j < t.args.length := by rw [HN.out]; exact hlt0
        obtain ⟨b1, o1, q1, d1, rfl, ⟨x0, x1, x2, x3, x4, x5, x6⟩, kx⟩ := kid_at HK.out hb hll
        have hjl : ((t.args.take j).map (fun x => idN x)).length = j := by rw [List.length_map, List.length_take]; omega
        have hw := HIH.out t.args[j] q1 d1 wr (by have := dep_get hll; unfold dep at hd ⊢; unfold dep at this; omega) (by have := cnt_get hll; unfold cnt at hc; omega) kx
        obtain ⟨Y, hY⟩ : ∃ Y, idN t.args[j] = Y := ⟨_, rfl⟩
        have HYM : Hid ((t.args.take (j + 1)).map (fun x => idN x) = (t.args.take j).map (fun x => idN x) ++ [Y]) := by
          show _ = _
          rw [ntake_succ hll, List.map_append, ← hY]
          rfl
        rw [hY] at hw
        have HW : Hid (Calls Try.prog 10 #[.agg #[.int .i64 t.args[j].kind, .string t.args[j].name, .int .u32 t.args[j].num, .int .i64 t.args[j].int_, .string t.args[j].key, .slice q1 t.args[j].args.length d1, .int .i64 t.args[j].at_]] wr fun e v' => ∃ p3 n3 c3, e = .returned (.agg #[.int .i64 Y.kind, .string Y.name, .int .u32 Y.num, .int .i64 Y.int_, .string Y.key, .slice p3 n3 c3, .int .i64 Y.at_]) ∧ Kids v' (kidH wr.heap.size v'.heap.size none) (.slice p3 n3 c3) Y.args ∧ Below wr.heap.size wr v') := hw
        have HR : Hid (RowN wr (w.heap.size + 2) ov ((t.args.take j).map (fun x => idN x)) R) := hR
        have i1 : (0 : Int) ≤ (j : Int) := by omega
        have i2 : (j : Int) < (n : Int) := by omega
        clear kx HIH HK hR hx hz HBX hw hY
        go_wp2_with (first
          | (go_at_call 10; (with_reducible refine HW.out.mono ?_); rintro e w3 ⟨p3, n3, c3, rfl, hk3, hb3⟩; have HK3 : Hid (Kids w3 (kidH wr.heap.size w3.heap.size none) (.slice p3 n3 c3) Y.args) := hk3; have HR3 : Hid (RowN w3 (w.heap.size + 2) ov ((t.args.take j).map (fun x => idN x)) R) := HR.out.below hb3; have hs3 := hb3.size; clear hk3)
          | (at_builtin; refine wpList_append_lies _ rfl _ _ 24 rfl (w.heap.size + 2) 26 i0 _ 7 88 Try.underlying24 hi0 hz0 hz1 hz2 rfl (by decide) ov j (cellsN R) rfl (World.ownsRow.alloc (by have := HR3.out.2.1; rw [hjl] at this; exact this) _) ⟨w3.heap.size, 0, none⟩ 1 1 [.int .i64 Y.kind, .string Y.name, .int .u32 Y.num, .int .i64 Y.int_, .string Y.key, .slice p3 n3 c3, .int .i64 Y.at_] rfl rfl (World.news_of_block (cs := #[.int .i64 Y.kind, .string Y.name, .int .u32 Y.num, .int .i64 Y.int_, .string Y.key, .slice p3 n3 c3, .int .i64 Y.at_]) (t := 26) (fr := (0, 0)) (box_heap w3 _)) (by simp [Value.oneCell']) (by decide) (by unfold maxLen; omega) (by omega) (by simp; omega) (w3.heap.size + 1) (by simp) ?_; intro g cap w4 hown4 hgrow hat hlt4; have HO4 : Hid (w4.ownsRow (w.heap.size + 2) 26 7 (.slice (some ⟨g, 0, none⟩) (j + 1) cap) (j + 1) (cellsN R ++ [.int .i64 Y.kind, .string Y.name, .int .u32 Y.num, .int .i64 Y.int_, .string Y.key, .slice p3 n3 c3, .int .i64 Y.at_])) := hown4; have HG4 : Hid ((w3.alloc (.cells #[.int .i64 Y.kind, .string Y.name, .int .u32 Y.num, .int .i64 Y.int_, .string Y.key, .slice p3 n3 c3, .int .i64 Y.at_] 26)).grownBy w4 ov.ownBlock) := hgrow; have HA4 : Hid (ov.ownBlock = some g ∨ g = w3.heap.size + 1) := hat; clear hown4 hgrow hat))
        have hro : ∀ k, ov.ownBlock = some k → w.heap.size + 2 ≤ k ∧ k < wr.heap.size := fun k hk => HR.out.2.1.lt k hk
        have hb4 : Below w.heap.size w w4 := Below.grown (bel (bel hb hb3) (bel_alloc _ _)) HG4.out (by simp; omega) (fun k hk => by have := (hro k hk).1; omega)
        have hr4 : RowN w4 (w.heap.size + 2) (.slice (some ⟨g, 0, none⟩) (j + 1) cap) ((t.args.take (j + 1)).map (fun x => idN x)) (R ++ [(Y, .slice p3 n3 c3)]) := by
          have := RowN.push (t := Y) (s := .slice p3 n3 c3) HR3.out (bel_alloc w3 (.cells #[.int .i64 Y.kind, .string Y.name, .int .u32 Y.num, .int .i64 Y.int_, .string Y.key, .slice p3 n3 c3, .int .i64 Y.at_] 26)) (HK3.out.weak fun p n c hq b o hp => ⟨by have := (hq b o hp).1; omega, (hq b o hp).2.1, fun e => by have h1 := (hro b e.symm).2; have h2 := (hq b o hp).1; omega⟩) HG4.out (by simpa using HA4.out) (by rw [hjl]; exact HO4.out)
          rw [hjl] at this
          rw [HYM.out]
          exact this
        have kk : ∀ q (x : Obj), q < w.heap.size + 2 → wr.heap[q]? = some x → w4.heap[q]? = some x := fun q x hq hx => by
          have h1 : (w3.alloc (.cells #[.int .i64 Y.kind, .string Y.name, .int .u32 Y.num, .int .i64 Y.int_, .string Y.key, .slice p3 n3 c3, .int .i64 Y.at_] 26)).heap[q]? = some x := by rw [(bel hb3 (bel_alloc w3 (.cells #[.int .i64 Y.kind, .string Y.name, .int .u32 Y.num, .int .i64 Y.int_, .string Y.key, .slice p3 n3 c3, .int .i64 Y.at_] 26))).block q (hlt hx)]; exact hx
          rw [HG4.out.block q (hlt h1) (fun e => by have := (hro q e.symm).1; omega)]
          exact h1
        have HF : Hid (Below w.heap.size w w4 ∧ w.heap.size + 2 ≤ w4.heap.size ∧ w4.heap[w.heap.size]? = some (.cells #[.int .i64 t.kind, .string t.name, .int .u32 t.num, .int .i64 t.int_, .string t.key, .slice (some ⟨b1, o1, none⟩) n c, .int .i64 t.at_] 26) ∧ w4.heap[w.heap.size + 1]? = some (.cells #[.int .i64 0, .string ⟨#[]⟩, .int .u32 0, .int .i64 0, .string ⟨#[]⟩, .slice none 0 0, .int .i64 0] 26) ∧ ∃ R, RowN w4 (w.heap.size + 2) (.slice (some ⟨g, 0, none⟩) (j + 1) cap) ((t.args.take (j + 1)).map (fun x => idN x)) R) := ⟨hb4, by have := HG4.out.size; simp at this; omega, kk _ _ (by omega) HX.out, kk _ _ (by omega) HZ.out, _, hr4⟩
        clear hro hb4 hr4 kk
        go_wp2
        go_roundw
        case rel => exact ⟨HF.out.1, j + 1, _, rfl, by omega, by go_num, HF.out.2.1, HF.out.2.2.1, HF.out.2.2.2.1, HF.out.2.2.2.2⟩
        case measure => simp [intOf]; omega
      · have : j = n := by omega
        subst this
        have e : t.args.take j = t.args := List.take_of_length_le (by rw [HN.out]; exact Nat.le_refl _)
        rw [e, ← HFA.out] at hR
        have hkk := hR.kids
        obtain ⟨pv, cv, hov, -⟩ := id hkk
        rw [hov] at hkk
        subst hov
        obtain ⟨L, hL⟩ : ∃ L, (idN t).args.length = L := ⟨_, rfl⟩
        have HKK : Hid (Kids wr (kidH (w.heap.size + 2) wr.heap.size none) (.slice pv L cv) (idN t).args) := by rw [← hL]; exact hkk
        rw [hL]
        obtain ⟨⟨r0, r1, r2, r3, r4, r5, r6⟩, q0, q1, q2, q3, q4, q5, q6⟩ := seven hz
        obtain ⟨⟨o0, o1, o2, o3, o4, o5, o6⟩, f0, f1, f2, f3, f4, f5, f6⟩ := seven hx
        clear hkk hR hx hz HIH HK HBX e hL
        go_wp2
        refine bodyPost_ret (by simp [results, Try.results10, go_sem, *]; try rfl) rfl ?_
        have hoff1 := (Off.refl w.heap.size wr).set 5 (.slice pv L cv)
        have hoff2 := ((((((((Off.refl (w.heap.size + 1) (wr.setCell ⟨w.heap.size, 5, none⟩ (.slice pv L cv))).set 0 (.int .i64 t.kind)).set 1 (.string t.name)).set 2 (.int .u32 t.num)).set 3 (.int .i64 t.int_)).set 4 (.string t.key)).set 5 (.slice pv L cv)).set 6 (.int .i64 t.at_))
        refine ⟨_, _, _, rfl, ((HKK.out.off fun b hb => ?_).weak fun p n c hq b o hp => ⟨?_, ?_, by simp⟩), hoff2.below (hoff1.below hb (Nat.le_refl _)) (by omega)⟩
        · rw [hoff2.2.2.2.2 b (by omega)]; exact hoff1.2.2.2.2 b (by omega)
        · have := (hq b o hp).1; omega
        · have h1 := (hq b o hp).2.1; have h2 := hoff1.2.2.2.1; have h3 := hoff2.2.2.2.1; omega

end Go.Proofs.Ytbmkddmmclndcaa
