/-
  Valid rows, in both packages (for a seat without expressions); the order of values. No condition.
-/
import Derived.Test.YtedlojihiilonaaVVa
import Derived.Test.YtedlojihiilonaaVSem
import Derived.Test.YtedlojihiilonaaVLib
set_option maxHeartbeats 4000000
set_option maxRecDepth 100000
namespace Go.Proofs.Ytedlojihiilonaa
open Go.RowKit

end Go.Proofs.Ytedlojihiilonaa
