/-
  Valid rows, in both packages (for a seat without expressions); the order of values. No condition.
-/
import Derived.Test.YtncecpieebepaaaVVa
import Derived.Test.YtncecpieebepaaaVSem
import Derived.Test.YtncecpieebepaaaVLib
set_option maxHeartbeats 4000000
set_option maxRecDepth 100000
namespace Go.Proofs.Ytncecpieebepaaa
open Go.RowKit

end Go.Proofs.Ytncecpieebepaaa
