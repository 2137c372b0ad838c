/-
  The library's iterator over a slice of rows, and what collects one. No condition.
-/
import Derived.Test.YtjjcokmnebkbiaaVTbD
import Derived.Test.YtjjcokmnebkbiaaVSem
import Derived.Test.YtjjcokmnebkbiaaVBox
set_option maxHeartbeats 4000000
set_option maxRecDepth 100000
set_option linter.unusedVariables false
set_option linter.unusedSimpArgs false
namespace Go.Proofs.Ytjjcokmnebkbiaa
open Go.RowKit

/-- What an iterator over rows hands out. -/
def tupR (r : List V) : D := .tup [rowD r]
theorem tupR_at {rs : List (List V)} {i : Nat} {es : List D} (h : (rs.map tupR)[i]? = some (.tup es)) : ∃ r, rs[i]? = some r ∧ es = [rowD r] := by
  rw [List.getElem?_map] at h
  cases hr : rs[i]? with
  | none => rw [hr] at h; cases h
  | some r =>
    rw [hr] at h
    simp only [Option.map_some, Option.some.injEq, tupR, D.tup.injEq] at h
    exact ⟨r, rfl, h.symm⟩

end Go.Proofs.Ytjjcokmnebkbiaa
