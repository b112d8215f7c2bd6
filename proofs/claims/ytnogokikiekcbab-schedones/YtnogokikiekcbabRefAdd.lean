import Derived.Test.YtnogokikiekcbabRefOps
/- Sums of the reference of layer 2. -/
namespace Go.Proofs.Ytnogokikiekcbab
open Go.RowKit
set_option linter.unusedVariables false

def rnd (x e : Int) : Int := if x = 0 then 0 else (Ieee.single.nearest (decide (x < 0)) x.natAbs e : Nat)
def sgd (s : Bool) (x : Int) : Int := if s then -x else x
def sumv (s1 : Bool) (m1 e1 : Int) (s2 : Bool) (m2 e2 : Int) : Int :=
  if e1 - e2 ≤ 36 then rnd (sgd s1 (m1 * 2 ^ (e1 - e2).toNat) + sgd s2 m2) e2 else rnd (sgd s1 (m1 * 68719476736) + sgd s2 1) (e1 - 36)
theorem ret_near {s : Bool} {m m' : Nat} {e e' : Int} (h : m = m') (k : e = e') : Ending.returned (.int .i64 ((Ieee.single.nearest s m e : Nat) : Int)) = .returned (.int .i64 ((Ieee.single.nearest s m' e' : Nat) : Int)) := by rw [h, k]

end Go.Proofs.Ytnogokikiekcbab
