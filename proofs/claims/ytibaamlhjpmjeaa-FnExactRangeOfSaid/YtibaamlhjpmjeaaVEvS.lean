/-
  The model's values of expressions. No condition.
-/
import Derived.Test.YtibaamlhjpmjeaaVVa
import Derived.Test.YtibaamlhjpmjeaaVVal
import Derived.Test.YtibaamlhjpmjeaaVLib
set_option maxHeartbeats 4000000
set_option maxRecDepth 100000
namespace Go.Proofs.Ytibaamlhjpmjeaa
open Go.RowKit

theorem mul_bound {a b : Int} (h0 : -9999 ≤ a) (h1 : a ≤ 9999) (h2 : -9999 ≤ b) (h3 : b ≤ 9999) : -99980001 ≤ a * b ∧ a * b ≤ 99980001 := by
  have h : (a * b).natAbs ≤ 9999 * 9999 := by
    rw [Int.natAbs_mul]
    exact Nat.mul_le_mul (by omega) (by omega)
  omega
end Go.Proofs.Ytibaamlhjpmjeaa
