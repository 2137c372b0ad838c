/-
  The reader of a code: what its functions do. No condition.
-/
import Derived.Test.YtedmegmhjmabcaaVLib
set_option maxHeartbeats 4000000
set_option maxRecDepth 100000
namespace Go.Proofs.Ytedmegmhjmabcaa
open Go.RowKit

end Go.Proofs.Ytedmegmhjmabcaa
