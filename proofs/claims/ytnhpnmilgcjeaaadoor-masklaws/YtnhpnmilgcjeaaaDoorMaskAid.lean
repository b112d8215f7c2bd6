import Derived.Test.YtnhpnmilgcjeaaaDoorTreeMem
import Derived.Test.YtnhpnmilgcjeaaaDoorMaskMatch
import Derived.MapKept
/- Trees, for layers above: a node's cells; the reference's Depth; room, big. -/
namespace Go.Proofs.YtnhpnmilgcjeaaaDoor
open Go.RowKit
set_option linter.unusedVariables false
set_option linter.unusedSimpArgs false

theorem hlt {w : World} {G : Nat} {o : Obj} (h : w.heap[G]? = some o) : G < w.heap.size := by
  rcases Nat.lt_or_ge G w.heap.size with c | c
  · exact c
  · rw [Array.getElem?_eq_none c] at h; cases h
theorem cell_heap {w : World} {G : Nat} {cs : Array Value} {t : TypeId} {f : Nat × Nat} (h : w.heap[G]? = some (.cells cs t f)) (i : Nat) : w.cell? ⟨G, i, none⟩ = cs[i]? := by
  simp [World.cell?, h]
theorem box_heap (w : World) (x : Obj) : (w.alloc x).heap[w.heap.size]? = some x := (MapKept.heap_alloc w _).1
theorem at_cell {w : World} {C : Nat} {a : Array Value} {t : TypeId} (h : w.heap[C]? = some (.cells a t)) (i : Nat) {u : Value} (e : a[i]? = some u) : w.cell? ⟨C, i, none⟩ = some u ∧ w.frozen? ⟨C, i, none⟩ = false := by
  simp [World.cell?, World.frozen?, h, e]

/-- Another world but for one block. -/
def Off (R : Nat) (v v' : World) : Prop := v'.os = v.os ∧ v'.tape = v.tape ∧ v'.output = v.output ∧ v'.heap.size = v.heap.size ∧ ∀ b, b ≠ R → v'.heap[b]? = v.heap[b]?
theorem seven {v : World} {R : Nat} {a0 a1 a2 a3 a4 a5 a6 : Value} {t : TypeId} (h : v.heap[R]? = some (.cells #[a0, a1, a2, a3, a4, a5, a6] t)) :
    (v.cell? ⟨R, 0, none⟩ = some a0 ∧ v.cell? ⟨R, 1, none⟩ = some a1 ∧ v.cell? ⟨R, 2, none⟩ = some a2 ∧ v.cell? ⟨R, 3, none⟩ = some a3 ∧ v.cell? ⟨R, 4, none⟩ = some a4 ∧ v.cell? ⟨R, 5, none⟩ = some a5 ∧ v.cell? ⟨R, 6, none⟩ = some a6)
    ∧ (v.frozen? ⟨R, 0, none⟩ = false ∧ v.frozen? ⟨R, 1, none⟩ = false ∧ v.frozen? ⟨R, 2, none⟩ = false ∧ v.frozen? ⟨R, 3, none⟩ = false ∧ v.frozen? ⟨R, 4, none⟩ = false ∧ v.frozen? ⟨R, 5, none⟩ = false ∧ v.frozen? ⟨R, 6, none⟩ = false) :=
  ⟨⟨(at_cell h 0 rfl).1, (at_cell h 1 rfl).1, (at_cell h 2 rfl).1, (at_cell h 3 rfl).1, (at_cell h 4 rfl).1, (at_cell h 5 rfl).1, (at_cell h 6 rfl).1⟩,
    (at_cell h 0 rfl).2, (at_cell h 1 rfl).2, (at_cell h 2 rfl).2, (at_cell h 3 rfl).2, (at_cell h 4 rfl).2, (at_cell h 5 rfl).2, (at_cell h 6 rfl).2⟩

theorem KA_seven {w : World} {Q : Heads} {b o : Nat} {l : List Nd} (h : KA w Q b o l) {i : Nat} (hi : i < l.length) : ∃ p c,
    (w.cell? ⟨b, o + i * 7, none⟩ = some (.int .i64 l[i].kind) ∧ w.cell? ⟨b, o + i * 7 + 1, none⟩ = some (.string l[i].name) ∧ w.cell? ⟨b, o + i * 7 + 2, none⟩ = some (.int .u32 l[i].num) ∧ w.cell? ⟨b, o + i * 7 + 3, none⟩ = some (.int .i64 l[i].int_) ∧ w.cell? ⟨b, o + i * 7 + 4, none⟩ = some (.string l[i].key) ∧ w.cell? ⟨b, o + i * 7 + 5, none⟩ = some (.slice p l[i].args.length c) ∧ w.cell? ⟨b, o + i * 7 + 6, none⟩ = some (.int .i64 l[i].at_))
    ∧ Kids w Q (.slice p l[i].args.length c) l[i].args := by
  obtain ⟨e0, e1, e2, e3, e4, e6, sv, e5, hk⟩ := KA_get h hi
  obtain ⟨p, c, rfl, -⟩ := id hk
  exact ⟨p, c, ⟨e0, e1, e2, e3, e4, e5, e6⟩, hk⟩

theorem cell5 {w : World} {G : Nat} {a0 a1 a2 a3 a4 a5 a6 : Value} {t : TypeId} (h : w.heap[G]? = some (.cells #[a0, a1, a2, a3, a4, a5, a6] t)) : w.cell? ⟨G, 5, none⟩ = some a5 := cell_heap h 5
/-- The node at a place of a slice. -/
theorem kid_at {w : World} {p : Option Addr} {c : Nat} {l : List Nd} (h : Kids w anyH (.slice p l.length c) l) {v : World} (hb : Below w.heap.size w v) {j : Nat} (hj : j < l.length) : ∃ b o q d, p = some ⟨b, o, none⟩ ∧
    (v.cell? ⟨b, o + j * 7, none⟩ = some (.int .i64 l[j].kind) ∧ v.cell? ⟨b, o + j * 7 + 1, none⟩ = some (.string l[j].name) ∧ v.cell? ⟨b, o + j * 7 + 2, none⟩ = some (.int .u32 l[j].num) ∧ v.cell? ⟨b, o + j * 7 + 3, none⟩ = some (.int .i64 l[j].int_) ∧ v.cell? ⟨b, o + j * 7 + 4, none⟩ = some (.string l[j].key) ∧ v.cell? ⟨b, o + j * 7 + 5, none⟩ = some (.slice q l[j].args.length d) ∧ v.cell? ⟨b, o + j * 7 + 6, none⟩ = some (.int .i64 l[j].at_))
    ∧ Kids v anyH (.slice q l[j].args.length d) l[j].args := by
  obtain ⟨p', c', hv, -, hk⟩ := h
  simp only [Value.slice.injEq] at hv
  obtain ⟨rfl, -, -⟩ := hv
  rcases hk with hk | ⟨b, o, hp, hk⟩
  · rw [hk] at hj; exact absurd hj (Nat.not_lt_zero _)
  · obtain ⟨q, d, h1, h2⟩ := KA_seven (hk.below hb) hj
    exact ⟨b, o, q, d, hp, h1, h2⟩

def DepTo (N : Nat) : Prop := ∀ (t : Nd) (p : Option Addr) (c : Nat) (w : World), dep t ≤ N → cnt t ≤ 40000 → Kids w anyH (.slice p t.args.length c) t.args →
  Calls Tryd.prog 15 #[nv t (.slice p t.args.length c)] w fun e w' => e = .returned (.int .i64 (dep t)) ∧ Below w.heap.size w w'
set_option maxRecDepth 100000 in
set_option maxHeartbeats 2000000 in
theorem rdepth_to : ∀ N, DepTo N := by
  intro N
  induction N with
  | zero => intro t p c w hd; unfold dep at hd; omega
  | succ N ih =>
    intro t p c w hd hc hk
    have hlen : t.args.length ≤ 40000 := by have := cntL_len t.args; unfold cnt at hc; omega
    have hdl : depL t.args ≤ 40000 := by have := depL_cnt t.args; unfold cnt at hc; omega
    obtain ⟨n, hn⟩ : ∃ n, t.args.length = n := ⟨_, rfl⟩
    have HN : Hid (t.args.length = n) := hn
    have hbx := box_heap w (.cells #[.int .i64 t.kind, .string t.name, .int .u32 t.num, .int .i64 t.int_, .string t.key, .slice p t.args.length c, .int .i64 t.at_] 29)
    have hb0 := bel_alloc w (.cells #[.int .i64 t.kind, .string t.name, .int .u32 t.num, .int .i64 t.int_, .string t.key, .slice p t.args.length c, .int .i64 t.at_] 29)
    have HK : Hid (Kids w anyH (.slice p t.args.length c) t.args) := hk
    have HIH : Hid (DepTo N) := ih
    unfold nv
    rw [hn] at hlen hbx ⊢
    have HBX : Hid ((w.alloc (.cells #[.int .i64 t.kind, .string t.name, .int .u32 t.num, .int .i64 t.int_, .string t.key, .slice p n c, .int .i64 t.at_] 29)).heap[w.heap.size]? = some (.cells #[.int .i64 t.kind, .string t.name, .int .u32 t.num, .int .i64 t.int_, .string t.key, .slice p n c, .int .i64 t.at_] 29)) := hbx
    rw [hn] at hb0
    clear hn hk ih hbx
    go_enter Tryd.func15, Tryd.ntmps15
    go_wp2
    go_loopw [3, 4] (fun kv iv wr => Below w.heap.size w wr ∧ ∃ j : Nat, j ≤ n ∧ iv = .int .i64 j ∧ kv = .int .i64 (depL (t.args.take j) : Int) ∧ wr.heap[w.heap.size]? = some (.cells #[.int .i64 t.kind, .string t.name, .int .u32 t.num, .int .i64 t.int_, .string t.key, .slice p n c, .int .i64 t.at_] 29)) (fun _ iv _ => n - (intOf iv).toNat)
    case atStart => exact ⟨hb0, 0, Nat.zero_le _, rfl, by rw [List.take_zero, depL_nil]; rfl, HBX.out⟩
    case round =>
      obtain ⟨hb, j, hj, rfl, rfl, hx⟩ := hrel
      have h5 := cell5 hx
      have HX : Hid (wr.heap[w.heap.size]? = some (.cells #[.int .i64 t.kind, .string t.name, .int .u32 t.num, .int .i64 t.int_, .string t.key, .slice p n c, .int .i64 t.at_] 29)) := hx
      clear hx HBX hb0
      by_cases hlt0 : j < n
      · have hll : j < t.args.length := by rw [HN.out]; exact hlt0
        obtain ⟨b1, o1, q1, d1, rfl, ⟨x0, x1, x2, x3, x4, x5, x6⟩, kx⟩ := kid_at HK.out hb hll
        have ht := depL_take hll
        obtain ⟨s, hs⟩ : ∃ s, depL (t.args.take j) = s := ⟨_, rfl⟩
        obtain ⟨m, hm⟩ : ∃ m, dep t.args[j] = m := ⟨_, rfl⟩
        rw [hs] at ht ⊢
        have HW : Hid (Calls Tryd.prog 15 #[.agg #[.int .i64 t.args[j].kind, .string t.args[j].name, .int .u32 t.args[j].num, .int .i64 t.args[j].int_, .string t.args[j].key, .slice q1 t.args[j].args.length d1, .int .i64 t.args[j].at_]] wr fun e v' => e = .returned (.int .i64 (m : Int)) ∧ Below wr.heap.size wr v') :=
          (HIH.out t.args[j] q1 d1 wr (by have := dep_get hll; unfold dep at hd ⊢; unfold dep at this; omega) (by have := cnt_get hll; unfold cnt at hc; omega) kx).mono fun e v' ⟨he, hb'⟩ => ⟨by rw [he, hm], hb'⟩
        rw [hm] at ht
        have HT : Hid (depL (t.args.take (j + 1)) = max s m) := ht
        have i1 : (0 : Int) ≤ (j : Int) := by omega
        have i2 : (j : Int) < (n : Int) := by omega
        clear kx ht hs hm HIH
        by_cases hsm : s < m
        · have z1 : (s : Int) < (m : Int) := by omega
          have z2 : ¬ ((m : Int) < (s : Int)) := by omega
          have z3 : ¬ ((m : Int) ≤ (s : Int)) := by omega
          go_wp2_with (go_at_call 15; (with_reducible refine HW.out.mono ?_); rintro e w3 ⟨rfl, hb3⟩)
          go_roundw
          case rel => exact ⟨bel hb hb3, j + 1, by omega, by go_num, by rw [HT.out]; congr 1; omega, by rw [hb3.block _ (hlt HX.out)]; exact HX.out⟩
          case measure => simp [intOf]; omega
        · have z1 : ¬ ((s : Int) < (m : Int)) := by omega
          have z3 : (m : Int) ≤ (s : Int) := by omega
          go_wp2_with (go_at_call 15; (with_reducible refine HW.out.mono ?_); rintro e w3 ⟨rfl, hb3⟩)
          go_roundw
          case rel => exact ⟨bel hb hb3, j + 1, by omega, by go_num, by rw [HT.out]; congr 1; omega, by rw [hb3.block _ (hlt HX.out)]; exact HX.out⟩
          case measure => simp [intOf]; omega
      · have : j = n := by omega
        subst this
        have e : depL (t.args.take j) = depL t.args := by rw [List.take_of_length_le (by rw [HN.out]; exact Nat.le_refl _)]
        rw [e]
        clear e
        go_wp2
        go_ret
        refine ⟨ret_int ?_, hb⟩
        unfold dep
        push_cast
        rfl

def RoomTo (N : Nat) : Prop := ∀ (t : Nd) (p : Option Addr) (c : Nat) (m : Int) (w : World), dep t ≤ N → 0 ≤ m → m ≤ 9000 → Kids w anyH (.slice p t.args.length c) t.args →
  Calls Tryd.prog 22 #[nv t (.slice p t.args.length c), .int .i64 m] w fun e w' => e = .returned (.int .i64 (room t m)) ∧ Below w.heap.size w w'
theorem roomL_take {l : List Nd} {i : Nat} (h : i < l.length) (m : Int) (hm : 0 ≤ roomL (l.take i) m) (h0 : 0 ≤ m) : roomL (l.take (i + 1)) m = room l[i] (roomL (l.take i) m) := by
  have h1 := roomL_val (l.take i) m (by omega)
  have h2 := roomL_val (l.take (i + 1)) m (by omega)
  have h3 := cntL_take h
  rw [if_neg (by omega)] at h1 h2
  have h4 := roomL_val l[i].args (roomL (l.take i) m - 1) (by omega)
  unfold room
  rw [h4, h2, h3]
  unfold cnt
  split <;> omega
theorem roomL_stop {l : List Nd} {i : Nat} (m : Int) (hm : roomL (l.take i) m < 0) (h0 : 0 ≤ m) : roomL l m = roomL (l.take i) m := by
  have h1 := roomL_val (l.take i) m (by omega)
  have h2 := roomL_val l m (by omega)
  have h3 := cntL_take_le l i
  rw [if_neg (by omega)] at h1 h2
  omega
set_option maxRecDepth 100000 in
set_option maxHeartbeats 2000000 in
theorem room_to : ∀ N, RoomTo N := by
  intro N
  induction N with
  | zero => intro t p c m w hd; unfold dep at hd; omega
  | succ N ih =>
    intro t p c m w hd m0 m1 hk
    obtain ⟨n, hn⟩ : ∃ n, t.args.length = n := ⟨_, rfl⟩
    have HN : Hid (t.args.length = n) := hn
    have hbx := box_heap w (.cells #[.int .i64 t.kind, .string t.name, .int .u32 t.num, .int .i64 t.int_, .string t.key, .slice p t.args.length c, .int .i64 t.at_] 29)
    have hb0 := bel_alloc w (.cells #[.int .i64 t.kind, .string t.name, .int .u32 t.num, .int .i64 t.int_, .string t.key, .slice p t.args.length c, .int .i64 t.at_] 29)
    have HK : Hid (Kids w anyH (.slice p t.args.length c) t.args) := hk
    have HIH : Hid (RoomTo N) := ih
    unfold nv room
    rw [hn] at hbx ⊢
    have HBX : Hid ((w.alloc (.cells #[.int .i64 t.kind, .string t.name, .int .u32 t.num, .int .i64 t.int_, .string t.key, .slice p n c, .int .i64 t.at_] 29)).heap[w.heap.size]? = some (.cells #[.int .i64 t.kind, .string t.name, .int .u32 t.num, .int .i64 t.int_, .string t.key, .slice p n c, .int .i64 t.at_] 29)) := hbx
    rw [hn] at hb0
    clear hn hk ih hbx
    go_enter Tryd.func22, Tryd.ntmps22
    go_wp2
    go_loopw [1, 5] (fun lv iv wr => Below w.heap.size w wr ∧ ∃ j : Nat, j ≤ n ∧ iv = .int .i64 j ∧ lv = .int .i64 (roomL (t.args.take j) (m - 1)) ∧ (m = 0 → j = 0) ∧ (j : Int) + roomL (t.args.take j) (m - 1) ≤ m - 1 ∧ wr.heap[w.heap.size]? = some (.cells #[.int .i64 t.kind, .string t.name, .int .u32 t.num, .int .i64 t.int_, .string t.key, .slice p n c, .int .i64 t.at_] 29)) (fun _ iv _ => n - (intOf iv).toNat)
    case atStart => exact ⟨hb0, 0, Nat.zero_le _, rfl, by rw [List.take_zero, roomL_nil], fun _ => rfl, by rw [List.take_zero, roomL_nil]; omega, HBX.out⟩
    case round =>
      obtain ⟨hb, j, hj, rfl, rfl, hmj, hjm, hx⟩ := hrel
      have h5 := cell5 hx
      have HX : Hid (wr.heap[w.heap.size]? = some (.cells #[.int .i64 t.kind, .string t.name, .int .u32 t.num, .int .i64 t.int_, .string t.key, .slice p n c, .int .i64 t.at_] 29)) := hx
      clear hx HBX hb0
      obtain ⟨s, hs⟩ : ∃ s, roomL (t.args.take j) (m - 1) = s := ⟨_, rfl⟩
      rw [hs] at hjm ⊢
      have hlo : -1 ≤ s := by
        rw [← hs]
        by_cases hm : m = 0
        · subst hm; rw [hmj rfl, List.take_zero, roomL_nil]; omega
        · rw [roomL_val _ _ (by omega)]; split <;> omega
      by_cases hlt0 : j < n
      · have hll : j < t.args.length := by rw [HN.out]; exact hlt0
        by_cases hs0 : 0 ≤ s
        · have hm1 : 0 ≤ m - 1 := by
            by_cases hm : m = 0
            · subst hm; rw [hmj rfl, List.take_zero, roomL_nil] at hs; omega
            · omega
          obtain ⟨b1, o1, q1, d1, rfl, ⟨x0, x1, x2, x3, x4, x5, x6⟩, kx⟩ := kid_at HK.out hb hll
          have ht := roomL_take hll (m - 1) (by rw [hs]; exact hs0) hm1
          rw [hs] at ht
          obtain ⟨r, hr⟩ : ∃ r, room t.args[j] s = r := ⟨_, rfl⟩
          rw [hr] at ht
          have hrs : r ≤ s - 1 := by
            rw [← hr]; unfold room
            have := roomL_val t.args[j].args (s - 1) (by omega)
            rw [this]; split <;> omega
          have HW : Hid (Calls Tryd.prog 22 #[.agg #[.int .i64 t.args[j].kind, .string t.args[j].name, .int .u32 t.args[j].num, .int .i64 t.args[j].int_, .string t.args[j].key, .slice q1 t.args[j].args.length d1, .int .i64 t.args[j].at_], .int .i64 s] wr fun e v' => e = .returned (.int .i64 r) ∧ Below wr.heap.size wr v') :=
            (HIH.out t.args[j] q1 d1 s wr (by have := dep_get hll; unfold dep at hd ⊢; unfold dep at this; omega) hs0 (by omega) kx).mono fun e v' ⟨he, hb'⟩ => ⟨by rw [he, hr], hb'⟩
          have HT : Hid (roomL (t.args.take (j + 1)) (m - 1) = r) := ht
          have HMJ : Hid (m = 0 → j + 1 = 0) := fun h => by omega
          have i1 : (0 : Int) ≤ (j : Int) := by omega
          have i2 : (j : Int) < (n : Int) := by omega
          clear kx ht hr HIH hmj hs
          go_wp2_with (go_at_call 22; (with_reducible refine HW.out.mono ?_); rintro e w3 ⟨rfl, hb3⟩)
          go_roundw
          case rel => exact ⟨bel hb hb3, j + 1, by omega, by go_num, by rw [HT.out], HMJ.out, by rw [HT.out]; push_cast; omega, by rw [hb3.block _ (hlt HX.out)]; exact HX.out⟩
          case measure => simp [intOf]; omega
        · have i2 : (j : Int) < (n : Int) := by omega
          have z : ¬ (0 ≤ s) := hs0
          have HE : Hid (roomL t.args (m - 1) = s) := by
            show roomL t.args (m - 1) = s
            by_cases hm : m = 0
            · subst hm
              rw [hmj rfl, List.take_zero, roomL_nil] at hs
              rw [roomL_val _ _ (by omega), if_pos (by omega)]; omega
            · rw [roomL_stop (i := j) (m - 1) (by rw [hs]; omega) (by omega), hs]
          clear hmj hs HIH
          go_wp2
          go_ret
          exact ⟨ret_int HE.out.symm, hb⟩
      · have : j = n := by omega
        subst this
        rw [List.take_of_length_le (by rw [HN.out]; exact Nat.le_refl _)] at hs
        have HE : Hid (roomL t.args (m - 1) = s) := hs
        clear hs hmj HIH
        go_wp2
        go_ret
        exact ⟨ret_int HE.out.symm, hb⟩

set_option maxHeartbeats 400000 in
theorem big_any (t : Nd) (p : Option Addr) (c : Nat) (w : World) (hk : Kids w anyH (.slice p t.args.length c) t.args) :
    Calls Tryd.prog 11 #[nv t (.slice p t.args.length c)] w fun e w' => e = .returned (.bool (decide (9000 < cnt t))) ∧ Below w.heap.size w w' := by
  have hb0 := bel_alloc w (.cells #[.int .i64 t.kind, .string t.name, .int .u32 t.num, .int .i64 t.int_, .string t.key, .slice p t.args.length c, .int .i64 t.at_] 29)
  have HW : Hid (Calls Tryd.prog 22 #[.agg #[.int .i64 t.kind, .string t.name, .int .u32 t.num, .int .i64 t.int_, .string t.key, .slice p t.args.length c, .int .i64 t.at_], .int .i64 9000] (w.alloc (.cells #[.int .i64 t.kind, .string t.name, .int .u32 t.num, .int .i64 t.int_, .string t.key, .slice p t.args.length c, .int .i64 t.at_] 29)) fun e w' => e = .returned (.int .i64 (room t 9000)) ∧ Below w.heap.size w w') :=
    (room_to (dep t) t p c 9000 _ (Nat.le_refl _) (by decide) (by decide) (hk.below hb0)).mono fun e v' ⟨he, hb'⟩ => ⟨he, bel hb0 hb'⟩
  rw [← room_big]
  unfold nv
  clear hk
  go_enter Tryd.func11, Tryd.ntmps11
  go_wp2_with (go_at_call 22; (with_reducible refine HW.out.mono ?_); rintro e w3 ⟨rfl, hb3⟩)
  go_ret
  exact ⟨rfl, hb3⟩

end Go.Proofs.YtnhpnmilgcjeaaaDoor
