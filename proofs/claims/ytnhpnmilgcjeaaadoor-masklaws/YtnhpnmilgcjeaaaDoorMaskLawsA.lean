import Derived.Test.YtnhpnmilgcjeaaaDoorMaskCall
/- MaskLaws. -/
namespace Go.Proofs.YtnhpnmilgcjeaaaDoor
open Go.RowKit
set_option linter.unusedVariables false
set_option linter.unusedSimpArgs false

theorem set_zero {ps : List Par} {t : Nd} (h : (setP ps t).err = 0) : ¬ dep t > 64 ∧ (faultM ps t).1 = 0 := by
  by_cases h1 : dep t > 64
  · rw [set_deep h1] at h; exact absurd h (show ¬ (81 : Int) = 0 by decide)
  · by_cases h2 : (faultM ps t).1 = 0
    · exact ⟨h1, h2⟩
    · rw [set_fault h1 h2] at h; exact absurd h h2
theorem rdN_cell {w : World} {p : Option Addr} {n c : Nat} {l : List Nat} (h : RdN w (.slice p n c) l) {k : Nat} (hk : k < l.length) : ∃ b o, p = some ⟨b, o, none⟩ ∧ w.cell? ⟨b, o + k, none⟩ = some (.int .i64 (l[k] : Int)) := by
  obtain ⟨p', c', e, h⟩ := h
  cases e
  rcases h with h | ⟨b, o, hp, h⟩
  · rw [h] at hk; exact absurd hk (Nat.not_lt_zero _)
  · exact ⟨b, o, hp, h k hk⟩
theorem Hid.mk' {p : Prop} (h : p) : Hid p := h
/-- One node, laid out. -/
theorem kids_one {v : World} {t : Nd} {q : Option Addr} {d : Nat} (h : Kids v anyH (.slice q t.args.length d) t.args) :
    Kids (v.alloc (.cells #[.int .i64 t.kind, .string t.name, .int .u32 t.num, .int .i64 t.int_, .string t.key, .slice q t.args.length d, .int .i64 t.at_] 29)) anyH (.slice (some ⟨v.heap.size, 0, none⟩) 1 1) [t] := by
  have hh := box_heap v (.cells #[.int .i64 t.kind, .string t.name, .int .u32 t.num, .int .i64 t.int_, .string t.key, .slice q t.args.length d, .int .i64 t.at_] 29)
  refine ⟨_, _, rfl, trivial, .inr ⟨v.heap.size, 0, rfl, KA_cons.2 ⟨?_, KA_nil _ _ _ _⟩⟩⟩
  exact ⟨cell_heap hh 0, cell_heap hh 1, cell_heap hh 2, cell_heap hh 3, cell_heap hh 4, cell_heap hh 6, _, cell_heap hh 5, h.below (bel_alloc _ _)⟩
theorem kids_two {v : World} {t u : Nd} {q r : Option Addr} {d e : Nat} (h : Kids v anyH (.slice q t.args.length d) t.args) (k : Kids v anyH (.slice r u.args.length e) u.args) :
    Kids (v.alloc (.cells #[.int .i64 t.kind, .string t.name, .int .u32 t.num, .int .i64 t.int_, .string t.key, .slice q t.args.length d, .int .i64 t.at_, .int .i64 u.kind, .string u.name, .int .u32 u.num, .int .i64 u.int_, .string u.key, .slice r u.args.length e, .int .i64 u.at_] 29)) anyH (.slice (some ⟨v.heap.size, 0, none⟩) 2 2) [t, u] := by
  have hh := box_heap v (.cells #[.int .i64 t.kind, .string t.name, .int .u32 t.num, .int .i64 t.int_, .string t.key, .slice q t.args.length d, .int .i64 t.at_, .int .i64 u.kind, .string u.name, .int .u32 u.num, .int .i64 u.int_, .string u.key, .slice r u.args.length e, .int .i64 u.at_] 29)
  refine ⟨_, _, rfl, trivial, .inr ⟨v.heap.size, 0, rfl, KA_cons.2 ⟨?_, KA_cons.2 ⟨?_, KA_nil _ _ _ _⟩⟩⟩⟩
  · exact ⟨cell_heap hh 0, cell_heap hh 1, cell_heap hh 2, cell_heap hh 3, cell_heap hh 4, cell_heap hh 6, _, cell_heap hh 5, h.below (bel_alloc _ _)⟩
  · exact ⟨cell_heap hh 7, cell_heap hh 8, cell_heap hh 9, cell_heap hh 10, cell_heap hh 11, cell_heap hh 13, _, cell_heap hh 12, k.below (bel_alloc _ _)⟩
theorem kids_callN {v : World} {nm : ByteArray} {l : List Nd} {k : Nat} {q : Option Addr} {d : Nat} (hk : l.length = k) (h : Kids v anyH (.slice q k d) (l.map clr)) :
    Kids (v.alloc (.cells #[.int .i64 1, .string nm, .int .u32 0, .int .i64 0, .string ⟨#[]⟩, .slice q k d, .int .i64 0] 29)) anyH (.slice (some ⟨v.heap.size, 0, none⟩) 1 1) [callN nm l] := by
  have e : (callN nm l).args.length = k := by show (l.map clr).length = k; rw [List.length_map]; exact hk
  have := kids_one (v := v) (t := callN nm l) (q := q) (d := d) (by rw [e]; exact h)
  rw [e] at this
  exact this
theorem kids_callN2 {v : World} {nm : ByteArray} {l : List Nd} {nm' : ByteArray} {l' : List Nd} {q q' : Option Addr} {d d' : Nat} (hk : l.length = 1) (hk' : l'.length = 1) (h : Kids v anyH (.slice q 1 d) (l.map clr)) (h' : Kids v anyH (.slice q' 1 d') (l'.map clr)) :
    Kids (v.alloc (.cells #[.int .i64 1, .string nm, .int .u32 0, .int .i64 0, .string ⟨#[]⟩, .slice q 1 d, .int .i64 0, .int .i64 1, .string nm', .int .u32 0, .int .i64 0, .string ⟨#[]⟩, .slice q' 1 d', .int .i64 0] 29)) anyH (.slice (some ⟨v.heap.size, 0, none⟩) 2 2) [callN nm l, callN nm' l'] := by
  have e : (callN nm l).args.length = 1 := by show (l.map clr).length = 1; rw [List.length_map]; exact hk
  have e' : (callN nm' l').args.length = 1 := by show (l'.map clr).length = 1; rw [List.length_map]; exact hk'
  have := kids_two (v := v) (t := callN nm l) (u := callN nm' l') (q := q) (d := d) (r := q') (e := d') (by rw [e]; exact h) (by rw [e']; exact h')
  rw [e, e'] at this
  exact this
/-- Set of a mask of masks. -/
def SetN (w : World) (ps : List Par) (pp : Option Addr) (cc : Nat) (nm : ByteArray) (l : List Nd) (k : Nat) (L : List Nat) : Prop :=
  ∀ (v : World) (q : Option Addr) (d : Nat), Below w.heap.size w v → Kids v anyH (.slice q k d) (l.map clr) → Calls Tryd.prog 12 #[.agg #[.int .i64 1, .string nm, .int .u32 0, .int .i64 0, .string ⟨#[]⟩, .slice q k d, .int .i64 0], .slice pp ps.length cc] v fun e w' => ∃ u, e = .returned (.tuple #[u, .int .i64 0, .int .i64 0]) ∧ OwnI w' v.heap.size u L ∧ Below v.heap.size v w'
theorem setN_of {w : World} {ps : List Par} {pp : Option Addr} {cc : Nat} {nm : ByteArray} {l : List Nd} {k : Nat} (hk : l.length = k) (hml : ps.length ≤ 4398046510976) (hmn : ∀ q ∈ ps, q.name.size ≤ 140737488351232) (hr : Row w pp ps) (hd : ¬ dep (callN nm l) > 64) (hc : cnt (callN nm l) ≤ 40000) (hok : ok1 (callN nm l)) (hf : (faultM ps (callN nm l)).1 = 0) : SetN w ps pp cc nm l k (indP ps (callN nm l)) := fun v q d hv hkk => by
  have hlen : (callN nm l).args.length = k := by show (l.map clr).length = k; rw [List.length_map]; exact hk
  have := mSet_any (callN nm l) q d ps pp cc v hc hok hml hmn (by rw [hlen]; exact hkk) (hr.below hv)
  rw [set_ok hd hf, hlen] at this
  exact this
/-- The statement's call. -/
def CallN (nm : ByteArray) (l : List Nd) (k : Nat) : Prop :=
  ∀ (v : World) (q : Option Addr) (d : Nat), Kids v anyH (.slice q k d) l → Calls Tryd.prog 16 #[.string nm, .slice q k d] v fun e w' => ∃ q' d', e = .returned (.agg #[.int .i64 1, .string nm, .int .u32 0, .int .i64 0, .string ⟨#[]⟩, .slice q' k d', .int .i64 0]) ∧ Kids w' anyH (.slice q' k d') (l.map clr) ∧ Below v.heap.size v w'
theorem callN_of (nm : ByteArray) (l : List Nd) {k : Nat} (hk : l.length = k) (h2 : k ≤ 2) : CallN nm l k := fun v q d h => by
  subst hk
  exact call_any nm l q d v h2 h

/-- A region of a code by its number. -/
def findR (n : Nat) : Code → Option Code
  | .region k ops d => if k = n then some (.region k ops d) else none
  | .seq a b => match findR n a with | some c => some c | none => findR n b
  | .cond _ a b => match findR n a with | some c => some c | none => findR n b
  | .block _ a => findR n a
  | .loop a => findR n a
  | _ => none
noncomputable def r10 : Code := ((Tryd.f6.body).bind (findR 10)).getD .skip
theorem boxes14 {w : World} {B : Nat} {a0 a1 a2 a3 a4 a5 a6 b0 b1 b2 b3 b4 b5 b6 : Value} {tn tp : TypeId} (h : Boxes w B #[a0, a1, a2, a3, a4, a5, a6] #[b0, b1, b2, b3, b4, b5, b6] tn tp) :
    (w.cell? ⟨B, 0, none⟩ = some a0 ∧ w.cell? ⟨B, 1, none⟩ = some a1 ∧ w.cell? ⟨B, 2, none⟩ = some a2 ∧ w.cell? ⟨B, 3, none⟩ = some a3 ∧ w.cell? ⟨B, 4, none⟩ = some a4 ∧ w.cell? ⟨B, 5, none⟩ = some a5 ∧ w.cell? ⟨B, 6, none⟩ = some a6)
    ∧ (w.cell? ⟨B + 1, 0, none⟩ = some b0 ∧ w.cell? ⟨B + 1, 1, none⟩ = some b1 ∧ w.cell? ⟨B + 1, 2, none⟩ = some b2 ∧ w.cell? ⟨B + 1, 3, none⟩ = some b3 ∧ w.cell? ⟨B + 1, 4, none⟩ = some b4 ∧ w.cell? ⟨B + 1, 5, none⟩ = some b5 ∧ w.cell? ⟨B + 1, 6, none⟩ = some b6) :=
  ⟨⟨cell_heap h.1 0, cell_heap h.1 1, cell_heap h.1 2, cell_heap h.1 3, cell_heap h.1 4, cell_heap h.1 5, cell_heap h.1 6⟩, cell_heap h.2 0, cell_heap h.2 1, cell_heap h.2 2, cell_heap h.2 3, cell_heap h.2 4, cell_heap h.2 5, cell_heap h.2 6⟩

end Go.Proofs.YtnhpnmilgcjeaaaDoor
