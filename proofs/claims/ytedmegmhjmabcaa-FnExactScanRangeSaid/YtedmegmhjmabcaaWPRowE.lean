/-
  Rows compared by the laws. No condition.
-/
import Derived.Test.YtedmegmhjmabcaaVVa
import Derived.Test.YtedmegmhjmabcaaVSem
set_option maxHeartbeats 4000000
set_option maxRecDepth 100000
set_option linter.unusedVariables false
set_option linter.unusedSimpArgs false
namespace Go.Proofs.Ytedmegmhjmabcaa
open Go.RowKit

instance vDec : DecidableEq V := fun a b => decidable_of_iff (a.b = b.b ∧ a.n = b.n) ⟨fun h => by
  cases a
  cases b
  simp only at h
  rw [h.1, h.2], fun h => by rw [h]; exact ⟨rfl, rfl⟩⟩
end Go.Proofs.Ytedmegmhjmabcaa
