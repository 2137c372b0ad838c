/-
  Valid rows, in both packages (for a seat without expressions); the order of values. No condition.
-/
import Derived.Test.YtkfmglbnicbooaaVVa
import Derived.Test.YtkfmglbnicbooaaVSem
import Derived.Test.YtkfmglbnicbooaaVLib
set_option maxHeartbeats 4000000
set_option maxRecDepth 100000
namespace Go.Proofs.Ytkfmglbnicbooaa
open Go.RowKit

end Go.Proofs.Ytkfmglbnicbooaa
