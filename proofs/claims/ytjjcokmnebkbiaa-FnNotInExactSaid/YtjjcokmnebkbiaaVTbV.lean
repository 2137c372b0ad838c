/-
  Valid rows, in both packages (for a seat without expressions); the order of values. No condition.
-/
import Derived.Test.YtjjcokmnebkbiaaVVa
import Derived.Test.YtjjcokmnebkbiaaVSem
import Derived.Test.YtjjcokmnebkbiaaVLib
set_option maxHeartbeats 4000000
set_option maxRecDepth 100000
namespace Go.Proofs.Ytjjcokmnebkbiaa
open Go.RowKit

end Go.Proofs.Ytjjcokmnebkbiaa
