/-
  Drawn values and rows. No condition.
-/
import Derived.Test.YtedmegmhjmabcaaVRead
set_option maxHeartbeats 4000000
set_option maxRecDepth 100000
namespace Go.Proofs.Ytedmegmhjmabcaa
open Go.RowKit

/-- A value that may be out of bounds. -/
structure V.near (v : V) : Prop where
  lo : -10000 ≤ v.n
  hi : v.n ≤ 10000
end Go.Proofs.Ytedmegmhjmabcaa
