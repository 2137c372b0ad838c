/-
  Lists of numbers as plain data. No condition.
-/
import Derived.Test.YtedmegmhjmabcaaVLib
set_option maxHeartbeats 4000000
set_option maxRecDepth 100000
set_option linter.unusedVariables false
set_option linter.unusedSimpArgs false
namespace Go.Proofs.Ytedmegmhjmabcaa
open Go.RowKit

/-- A list of numbers as data. -/
def intsD (l : List Int) : D := .sl 1 (l.map I)
theorem ints_pur : ∀ l : List Int, D.purL (l.map I) = true
  | [] => rfl
  | p :: l => by rw [List.map_cons, D.purL, ints_pur l]; rfl
theorem ints_ren (L : List Nat) (l : List Int) : D.renL L (l.map I) = l.map I := ren_pure.renL_pure L _ (ints_pur l)
theorem ints_take (l : List Int) : (l.map I).take l.length = l.map I := List.take_of_length_le (by rw [List.length_map]; exact Nat.le_refl _)
attribute [go_sem] ints_pur ints_ren intsD
end Go.Proofs.Ytedmegmhjmabcaa
