/-
  The value of a row in a column. Plain lemmas.
-/
import Derived.Test.YtjjcokmnebkbiaaVLib
namespace Go.Proofs.Ytjjcokmnebkbiaa
open Go.RowKit

/-- The value of a row in a column. -/
def colV (c : Nat) (r : List V) : V := r.getD c ⟨false, 0⟩
theorem colV_at {c : Nat} {r : List V} (h : c < r.length) : r[c]? = some (colV c r) := by
  unfold colV
  rw [List.getD_eq_getElem?_getD, List.getElem?_eq_getElem h]
  rfl
end Go.Proofs.Ytjjcokmnebkbiaa
