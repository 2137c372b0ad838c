/-
  Valid rows, in both packages (for a seat without expressions); the order of values. No condition.
-/
import Derived.Test.YtedmegmhjmabcaaVVa
import Derived.Test.YtedmegmhjmabcaaVSem
import Derived.Test.YtedmegmhjmabcaaVLib
set_option maxHeartbeats 4000000
set_option maxRecDepth 100000
namespace Go.Proofs.Ytedmegmhjmabcaa
open Go.RowKit

end Go.Proofs.Ytedmegmhjmabcaa
