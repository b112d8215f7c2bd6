import Derived.Test.YtheedniegjcbgaaLexWalks
import Derived.WalkMore
import Derived.ScopeJumps
/- A scope whose gotos lead onward: at most n of them, one behind the other. -/
namespace Go.Proofs.Ytheedniegjcbgaa
open Go.RowKit
set_option linter.unusedVariables false

def onward (P : Program) (c : Code) (Q : Exit → Act → World → Prop) : Nat → Exit → Act → World → Prop
  | 0, .goto _, _, _ => False
  | n + 1, .goto l, a, w => ∃ rest, findLabel c l = some rest ∧ rest.wp P (onward P c Q n) a w
  | _, e, a, w => Q e a w

section
variable {P : Program} {c : Code} {Q : Exit → Act → World → Prop} {a : Act} {w : World}
@[go_sem] theorem onward_normal (n : Nat) : onward P c Q n .normal a w = Q .normal a w := by cases n <;> rfl
@[go_sem] theorem onward_exit (n : Nat) (id : Nat) : onward P c Q n (.exit id) a w = Q (.exit id) a w := by cases n <;> rfl
@[go_sem] theorem onward_ret (n : Nat) : onward P c Q n .ret a w = Q .ret a w := by cases n <;> rfl
@[go_sem] theorem onward_panic (n : Nat) (ch : List PanicEntry) : onward P c Q n (.panic ch) a w = Q (.panic ch) a w := by cases n <;> rfl
theorem onward_outgrown (n : Nat) : onward P c Q n .outgrown a w = Q .outgrown a w := by cases n <;> rfl

theorem onward_key (b : Frame) (k : List Item) (cs : List Frame) : ∀ (n : Nat) (d : Code) (a : Act) (w : World), d.wp P (onward P c Q n) a w →
    ∃ e a' w', Q e a' w' ∧ Arrives P (lone (b.at a (.code d :: .inScope c :: k)) cs w) b k cs e a' w' := by
  intro n
  induction n with
  | zero =>
    intro d a w h
    obtain ⟨e, a₁, w₁, hq, harr⟩ := h b (.inScope c :: k) cs
    cases e with
    | normal => exact ⟨.normal, a₁, w₁, hq, Steps.trans harr (.one step_inScope)⟩
    | exit id => exact ⟨.exit id, a₁, w₁, hq, fun k' hk => harr k' (by simp [exitTo, hk])⟩
    | goto l' => exact hq.elim
    | ret => exact ⟨_, a₁, w₁, hq, harr⟩
    | panic ch => exact ⟨_, a₁, w₁, hq, harr⟩
    | outgrown => exact ⟨_, a₁, w₁, hq, harr⟩
  | succ n ih =>
    intro d a w h
    obtain ⟨e, a₁, w₁, hq, harr⟩ := h b (.inScope c :: k) cs
    cases e with
    | normal => exact ⟨.normal, a₁, w₁, hq, Steps.trans harr (.one step_inScope)⟩
    | exit id => exact ⟨.exit id, a₁, w₁, hq, fun k' hk => harr k' (by simp [exitTo, hk])⟩
    | goto l' =>
      obtain ⟨rest, hf, hr⟩ := hq
      have hg : gotoIn l' (.inScope c :: k) = some (.code rest :: .inScope c :: k) := by simp [gotoIn, hf]
      obtain ⟨e₂, a₂, w₂, hq₂, harr₂⟩ := ih rest a₁ w₁ hr
      exact ⟨e₂, a₂, w₂, hq₂, .of_steps (harr _ hg) harr₂⟩
    | ret => exact ⟨_, a₁, w₁, hq, harr⟩
    | panic ch => exact ⟨_, a₁, w₁, hq, harr⟩
    | outgrown => exact ⟨_, a₁, w₁, hq, harr⟩

theorem wp_scope_onward (n : Nat) (h : ∀ c', Hid (c' = c) → c.wp P (onward P c' Q n) a w) : (Code.scope c).wp P Q a w := by
  intro b k cs
  obtain ⟨e, a', w', hq, harr⟩ := onward_key b k cs n c a w (h c rfl)
  exact ⟨e, a', w', hq, .of_steps (.one step_scope) harr⟩

theorem onward_goto {c' : Code} {n l : Nat} {rest : Code} (hc : Hid (c' = c)) (hf : findLabel c l = some rest) (h : rest.wp P (onward P c' Q n) a w) : onward P c' Q (n + 1) (.goto l) a w :=
  ⟨rest, by rw [show c' = c from hc]; exact hf, h⟩
end

end Go.Proofs.Ytheedniegjcbgaa
