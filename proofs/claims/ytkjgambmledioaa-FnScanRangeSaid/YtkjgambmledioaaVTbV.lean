/-
  Valid rows, in both packages (for a seat without expressions); the order of values. No condition.
-/
import Derived.Test.YtkjgambmledioaaVVa
import Derived.Test.YtkjgambmledioaaVSem
import Derived.Test.YtkjgambmledioaaVLib
set_option maxHeartbeats 4000000
set_option maxRecDepth 100000
namespace Go.Proofs.Ytkjgambmledioaa
open Go.RowKit

end Go.Proofs.Ytkjgambmledioaa
