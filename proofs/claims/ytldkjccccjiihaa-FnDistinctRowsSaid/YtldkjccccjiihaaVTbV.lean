/-
  Valid rows, in both packages (for a seat without expressions); the order of values. No condition.
-/
import Derived.Test.YtldkjccccjiihaaVVa
import Derived.Test.YtldkjccccjiihaaVSem
import Derived.Test.YtldkjccccjiihaaVLib
set_option maxHeartbeats 4000000
set_option maxRecDepth 100000
namespace Go.Proofs.Ytldkjccccjiihaa
open Go.RowKit

end Go.Proofs.Ytldkjccccjiihaa
