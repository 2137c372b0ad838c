/-
  Unions of tables, in both packages; two drawn tables. No condition.
-/
import Derived.Test.YtedmegmhjmabcaaKSDca
import Derived.Test.YtedmegmhjmabcaaJSDcc
import Derived.Test.YtedmegmhjmabcaaJSVClone
import Derived.Test.YtedmegmhjmabcaaKSVDrawTc
import Derived.Test.YtedmegmhjmabcaaSVGo
set_option maxHeartbeats 4000000
set_option maxRecDepth 100000
set_option linter.unusedVariables false
set_option linter.unusedSimpArgs false
namespace Go.Proofs.Ytedmegmhjmabcaa
open Go.RowKit
def sameT (a b : Ta) : Prop:=tOk a ∧ tOk b ∧ a.w = b.w
noncomputable instance sameTDec (a b : Ta) : Decidable (sameT a b):=Classical.propDecidable _
theorem sameT.symm {a b : Ta} (h : sameT a b) : sameT b a:=⟨h.2.1,h.1,h.2.2.symm⟩
theorem tOk_nat {t : Ta} (h : tOk t) : ∃ w : Nat,t.w = (w : Int) ∧ (1 ≤ w ∧ w ≤ 6) ∧ RsW w t.rows ∧ Asc t.rows ∧ t.rows.length ≤ 400:=by
 have h1:=h.1.1
 refine ⟨t.w.toNat,by omega,by omega,rsw_of_tOk h,asc_of_tOk h,h.1.2⟩
theorem NearT.mono {w w' m : Nat} {t : Ta} (h : NearT w m t) (hw : w ≤ w') : NearT w' m t:=⟨h.len,fun r hr=>by have:=h.row r hr; omega⟩
end Go.Proofs.Ytedmegmhjmabcaa
