/-
  Validity, in both packages. No condition.
-/
import Derived.Test.YtldkjccccjiihaaVVa
import Derived.Test.YtldkjccccjiihaaVSem
import Derived.Test.YtldkjccccjiihaaV0
import Derived.Test.YtldkjccccjiihaaVLib
set_option maxHeartbeats 4000000
set_option maxRecDepth 100000
namespace Go.Proofs.Ytldkjccccjiihaa
open Go.RowKit

end Go.Proofs.Ytldkjccccjiihaa
