import Derived.Test.YtnhpnmilgcjeaaaDoorMaskLawsO
import Derived.Test.YtnhpnmilgcjeaaaDoorMaskLawsI
/- MaskLaws: both. -/
namespace Go.Proofs.YtnhpnmilgcjeaaaDoor
open Go.RowKit
set_option linter.unusedVariables false
set_option linter.unusedSimpArgs false

theorem walk_MaskLaws (a : Nd) (pa : Option Addr) (ca : Nat) (hoka : ok1 a) (b : Nd) (pb : Option Addr) (cb : Nat) (hokb : ok1 b) (pp : Option Addr) (cc : Nat) (ps : List Par) (hml : ps.length ≤ 4398046510976) (hmn : ∀ q ∈ ps, q.name.size ≤ 140737488351232) (hz : pp = none → ps.length = 0 ∧ cc = 0) (w : World) (hka : Kids w anyH (.slice pa a.args.length ca) a.args) (hkb : Kids w anyH (.slice pb b.args.length cb) b.args) (hr : Row w pp ps) :
    Calls Tryd.prog 6 #[nv a (.slice pa a.args.length ca), nv b (.slice pb b.args.length cb), .slice pp ps.length cc] w fun e w' => e = .returned (.bool true) ∧ Below w.heap.size w w' := by
  by_cases h : ¬ 9000 < cnt a ∧ ¬ 9000 < cnt b ∧ (setP ps a).err = 0 ∧ (setP ps b).err = 0 ∧ ¬ dep a > 60 ∧ ¬ dep b > 60
  · exact walk_MaskLaws_in a pa ca hoka b pb cb hokb pp cc ps hml hmn hz w hka hkb hr h
  · exact walk_MaskLaws_out a pa ca hoka b pb cb hokb pp cc ps hml hmn hz w hka hkb hr h

end Go.Proofs.YtnhpnmilgcjeaaaDoor
